import PyProof.Rows.All
import Wide.All
import OpenK.AllK
import Wide.FinOn
import HandS.ForMost
import HandS.Wide
import HandS.EndBits
import PyProof.ReprRoads
import PyProof.CallFns
import HandS.ExcInit
import HandS.IsInst
import HandS.MakeKw
import HandS.MakeKwOnly
import KE.KExcIs
import HandS.ExcValue
import HandS.Evl
import HandS.Walk
import PyProof.EqLayable
import HandS.TupSets
import HandS.Strs
import HandS.OwnEq
import OpenK.KMeth
import HandS.Property
import HandS.TryOnly
import HandS.Words
import HandS.Defaults
import PySem.Challenge.RW_sparkrows_k05_webs_told
set_option Elab.async false
set_option linter.all false
set_option maxRecDepth 100000
set_option maxHeartbeats 4000000
/-! The tape of draws: what it is made of, and what a pick leaves. -/
namespace Tp
open PySem PySem.Spec PyProof.Rows L2

/-- products and squares of very great ints -/
def MulFits (i j : Int) : Prop := i.natAbs.log2 + j.natAbs.log2 < 40000000
def SqFits (i j : Int) : Prop := j = 2 ∧ i.natAbs.log2 < 40000000
theorem bits_log (x : Int) : Builtin.Int.intBits x ≤ x.natAbs.log2 + 1 := by
  unfold Builtin.Int.intBits
  split <;> omega
theorem log_bits (x : Int) : x.natAbs.log2 ≤ Builtin.Int.intBits x := by
  unfold Builtin.Int.intBits
  split
  · rename_i h
    have : x = 0 := by simpa using h
    subst this
    decide
  · omega
section
variable {X : Cx}
theorem op_mulB : OpR X (binaryOp .Mult) (rI MulFits fun i j => .int (i * j)) := opI fun i j _ _ _ _ _ hc q => mul_int q (by
  have h1 := bits_log i
  have h2 := bits_log j
  have h3 : i.natAbs.log2 + j.natAbs.log2 < 40000000 := hc
  have e : bitsLine = 134217728 := by decide
  intro z
  have z2 := (Bool.and_eq_true_iff.mp z).2
  unfold Builtin.Int.intTooBig at z2
  have z3 := of_decide_eq_true z2
  rw [e] at z3
  omega)
theorem op_sqB : OpR X (binaryOp .Pow) (rI SqFits fun i j => .int (i ^ j.toNat)) := opI fun i j _ _ _ _ _ hc q => by
  obtain ⟨rfl, h⟩ := hc
  have h1 := bits_log i
  exact pow_int (by decide) (by omega) q
end
theorem lt_of_log {n b : Nat} (h : n.log2 ≤ b) : n < 2 ^ (b + 1) := by
  have h1 : n < 2 ^ (n.log2 + 1) := Nat.lt_log2_self
  exact Nat.lt_of_lt_of_le h1 (Nat.pow_le_pow_right (by decide) (by omega))
theorem mix_bits {m c : Int} {b : Nat} (hb : 64 ≤ b) (hm : 0 ≤ m) (hm2 : m < 2 ^ 40) (hc : c.natAbs < 2 ^ b) : (m * 30029 + c * c + 13).natAbs.log2 < 2 * b + 1 := by
  have hp : (2 : Nat) ^ 64 ≤ 2 ^ b := Nat.pow_le_pow_right (by decide) hb
  have h1 : c.natAbs * c.natAbs < 2 ^ b * 2 ^ b := Nat.mul_lt_mul'' hc hc
  have e1 : (c * c).natAbs = c.natAbs * c.natAbs := Int.natAbs_mul c c
  have e2 : (2 : Nat) ^ (2 * b) = 2 ^ b * 2 ^ b := by rw [← Nat.pow_add]; congr 1; omega
  have e3 : (2 : Nat) ^ (2 * b + 1) = 2 * 2 ^ (2 * b) := by rw [Nat.pow_succ, Nat.mul_comm]
  have h2 : 2 ^ b ≤ 2 ^ b * 2 ^ b := Nat.le_mul_of_pos_right _ (by omega)
  have h3 : (m * 30029 + c * c + 13).natAbs ≤ (m * 30029 + 13).natAbs + (c * c).natAbs := by omega
  have h4 : (m * 30029 + 13).natAbs < 2 ^ 64 := by omega
  refine PySem.Flt.log2_lt_of (by omega) ?_
  rw [e3, e2]
  omega

/-! ### readings -/
abbrev rAdd : R2 := rI0 fun i j => .int (i + j)
abbrev rSub : R2 := rI0 fun i j => .int (i - j)
abbrev rMul : R2 := rI CMul fun i j => .int (i * j)
abbrev rMulB : R2 := rI MulFits fun i j => .int (i * j)
abbrev rSqB : R2 := rI SqFits fun i j => .int (i ^ j.toNat)
abbrev rPow : R2 := rI CPow fun i j => .int (i ^ j.toNat)
abbrev rMod : R2 := rI (fun _ j => 0 < j) fun i j => .int (i % j)
abbrev rModN : R2 := rI (fun _ j => j ≠ 0) fun i j => .int (i.fmod j)
abbrev rDivN : R2 := rI CDivN fun i j => .int (i.fdiv j)
abbrev rLt : R2 := rI0 fun i j => .bl (decide (i < j))
abbrev rGe : R2 := rI0 fun i j => .bl (decide (j ≤ i))
abbrev rGt : R2 := rI0 fun i j => .bl (decide (j < i))
abbrev rInt1 : List V → Hp → VK → Prop := fun xs H Q => (∃ i, xs = [V.int i] ∧ Q (V.int i) H) ∨ ∃ k, xs = [V.bl k] ∧ Q (V.int (if k = true then 1 else 0)) H
abbrev rLen (K : PySem.W.Frag) : List V → Hp → VK → Prop := fun xs H Q => ∃ p ys, xs = [V.ref p] ∧ (SqL K H p ys ∨ SqT K H p ys) ∧ Q (V.int (ys.length : Nat)) H
abbrev c (i : Int) : TE := tC (.int i)
abbrev s (x : Str) : TE := tC (.str x)

def mixOf (m : Int) (n : Int) : Int := (m * 30029 + n * n + 13) ^ 2 % 2147483563 + 2
def mixAll (j : Int) (ns : List Int) : Int := ns.foldl mixOf (101 + j * 53)
def digitsOf (j : Int) (ns : List Int) : Int := if j < ns.length ∧ 10 ^ 18 ≤ ns.getD j.toNat 0 then ns.getD j.toNat 0 - 10 ^ 18 else 0
/-- what stands in the tape -/
def tapeKv (d m : Int) : List (Key × V) := [(.inr "digits", .int d), (.inr "mixed", .int m)]
/-- the numbers of a tape -/
def Rng (d m : Int) : Prop := 0 ≤ d ∧ 0 ≤ m ∧ m < 2 ^ 40
theorem mix_rng {m n : Int} : 0 ≤ mixOf m n ∧ mixOf m n < 2 ^ 40 := by
  unfold mixOf
  generalize (m * 30029 + n * n + 13) ^ 2 = x
  omega

abbrev NTape : List Str := ["script", "start", "mixed", "cell", "digits"]
def t_tape (K : PySem.W.Frag) : TS :=
  tSeq (tAsg (tOp rAdd (c 101) (tOp rMul (tVar 1) (c 53))) (gName 2))
  (tSeq (tFor (iList K (tVar 0)) (gName 3)
    (tAsg (tOp rAdd (tOp rMod (tCB rInt1 (tCons (tOp rSqB (tOp rAdd (tOp rAdd (tOp rMul (tVar 2) (c 30029)) (tOp rMulB (tVar 3) (tVar 3))) (c 13)) (c 2)) tNil)) (c 2147483563)) (c 2)) (gName 2)))
  (tSeq (tAsg (tIf (tAnd (tTest (tOp rLt (tVar 1) (tCB (rLen K) (tCons (tVar 0) tNil)))) (tTest (tOp rGe (tOp (rIxL K) (tVar 0) (tVar 1)) (tOp rPow (c 10) (c 18)))))
      (tOp rSub (tOp (rIxL K) (tVar 0) (tVar 1)) (tOp rPow (c 10) (c 18))) (c 0)) (gName 4))
  (tRet (tDisp [(s "digits", tVar 4), (s "mixed", tVar 2)]))))

/-- the script: ints of at most b bits each -/
def Scr (K : PySem.W.Frag) (H : Hp) (a : Addr) (ns : List Int) : Prop := SqL K H a (ns.map V.int) ∧ ns.length ≤ 63 ∧ ∀ z ∈ ns, Builtin.Int.intBits z ≤ 1048576
def spTape (K : PySem.W.Frag) : Sp := fun vs H Q _ => ∃ (a : Addr) (ns : List Int) (j : Nat), vs = [.ref a, .int (j : Int)] ∧ Scr K H a ns ∧ j ≤ 5 ∧
  ∀ p d m, H p = none → Rng d m → Q (.ref p) (upd H p (.dK (tapeKv d m)))
end Tp

set_option maxHeartbeats 4000000
namespace Tp
open PySem PySem.Spec PyProof.Rows L2
theorem map_int {ns : List Int} {i : Nat} {y : V} (h : (ns.map V.int)[i]? = some y) : ∃ z, ns[i]? = some z ∧ y = .int z := by
  rw [List.getElem?_map] at h
  cases e : ns[i]? with
  | none => rw [e] at h; cases h
  | some z => rw [e] at h; exact ⟨z, rfl, (Option.some.inj h).symm⟩
theorem pure_tape {K : PySem.W.Frag} (vs : List V) (H : Hp) (Q : VK) (E : XK) (h : spTape K vs H Q E) : t_tape K { nx := fun _ H' => Q .non H', rt := Q } (start NTape vs) H := by
  obtain ⟨a, ns, j, rfl, ⟨hS, hl, hb⟩, hj, k⟩ := h
  refine ⟨_, rfl, (j : Int), 53, rfl, rfl, .inl ⟨by omega, by omega⟩, 101, (j : Int) * 53, rfl, rfl, ?_⟩
  refine ⟨_, rfl, a, rfl, ⟨_, hS⟩, for_list (K := K) (a := a) (xs := ns.map V.int)
    (fun i σ H' => ∃ (m : Int) (v : Option V), σ = [some (.ref a), some (.int (j : Int)), some (.int m), v, none] ∧ (0 ≤ m ∧ m < 2 ^ 40) ∧ H' = H)
    ⟨101 + (j : Int) * 53, none, rfl, by omega, rfl⟩ (fun i σ H' _ ⟨_, _, _, _, e⟩ => e ▸ hS) ?_ ?_⟩
  · rintro i y σ H' hi ⟨m, v, rfl, hm, rfl⟩
    obtain ⟨z, hz, rfl⟩ := map_int hi
    have hbz := hb z (List.mem_of_getElem? hz)
    have hzl : z.natAbs.log2 ≤ 1048576 := Nat.le_trans (log_bits z) hbz
    have key : (m * 30029 + z * z + 13).natAbs.log2 < 40000000 := by
      generalize hbb : (1048577 : Nat) = b at *
      have h1 : z.natAbs < 2 ^ b := by
        rw [← hbb]
        exact lt_of_log hzl
      have h2 := mix_bits (b := b) (by omega) hm.1 hm.2 h1
      omega
    refine ⟨_, rfl, m, 30029, rfl, rfl, .inl ⟨by omega, by omega⟩, _, rfl, _, rfl, z, z, rfl, rfl, (by show _ + _ < _; omega), _, _, rfl, rfl, _, _, rfl, rfl, _, _, rfl, rfl, ⟨rfl, key⟩, ?_⟩
    refine .inl ⟨_, rfl, _, _, rfl, rfl, (by show (0 : Int) < 2147483563; decide), _, _, rfl, rfl, ?_⟩
    exact ⟨mixOf m z, some (.int z), rfl, mix_rng, rfl⟩
  · rintro σ H' ⟨m, v, rfl, hm, rfl⟩
    refine ⟨_, rfl, _, rfl, a, _, rfl, .inl hS, _, _, rfl, rfl, _, rfl, ?_⟩
    have fin : ∀ d : Int, 0 ≤ d → tRet (tDisp [(s "digits", tVar 4), (s "mixed", tVar 2)]) { nx := fun _ H' => Q .non H', rt := Q } [some (.ref a), some (.int (j : Int)), some (.int m), v, some (.int d)] H' := by
      intro d hd p hp
      exact ⟨_, rfl, _, rfl, upd_same, [(.inr "digits", .int d), (.inr "mixed", .int m)], rfl, (by show 2 ≤ 15; decide), by rw [upd_upd]; exact k p d m hp ⟨hd, hm.1, hm.2⟩⟩
    refine ite2 (fun hlt => ?_) (fun _ => ?_)
    · have hlt' : j < ns.length := by
        have := of_decide_eq_true hlt
        rw [List.length_map] at this
        omega
      have hat : atI (ns.map V.int) (j : Int) = some (.int (ns[j]'hlt')) := atI_nat (by rw [List.getElem?_map, List.getElem?_eq_getElem hlt'] <;> rfl)
      refine ⟨_, rfl, _, rfl, a, _, _, _, rfl, rfl, hS, hat, _, _, rfl, rfl, ⟨by decide, by decide, by decide⟩, _, _, rfl, rfl, _, rfl, ?_⟩
      refine ite2 (fun hge => ?_) (fun _ => ?_)
      · have hge' := of_decide_eq_true hge
        refine ⟨_, rfl, _, rfl, a, _, _, _, rfl, rfl, hS, hat, _, _, rfl, rfl, ⟨by decide, by decide, by decide⟩, _, _, rfl, rfl, ?_⟩
        exact fin _ (by omega)
      · exact fin 0 (by omega)
    · exact fin 0 (by omega)
end Tp

set_option maxHeartbeats 4000000
namespace Tp
open PySem PySem.Spec PyProof.Rows L2
abbrev NPick : List Str := ["tape", "many_here", "found", "once"]
abbrev tGet (x : Str) : TE := tDGet (tVar 0) (s x)
def t_pick : TS :=
  tSeq (tIfS (tTest (tOp rGe (tGet "digits") (tVar 1)))
    (tSeq (tAsg (tOp rMod (tCB rInt1 (tCons (tGet "digits") tNil)) (tVar 1)) (gName 2))
    (tSeq (sDPut (tVar 0) (s "digits") (tOp rDivN (tGet "digits") (tVar 1)))
    (tRet (tVar 2)))) tNext)
  (tSeq (sDPut (tVar 0) (s "mixed") (tOp rMod (tCB rInt1 (tCons (tOp rAdd (tOp rMul (tGet "mixed") (c 40014)) (c 1031)) tNil)) (c 2147483563)))
  (tSeq (tAsg (tOp rMod (tCB rInt1 (tCons (tOp rPow (tGet "mixed") (c 2)) tNil)) (c 2147483399)) (gName 3))
  (tRet (tOp rMod (tCB rInt1 (tCons (tOp rDivN (tOp rMod (tCB rInt1 (tCons (tOp rPow (tVar 3) (c 3)) tNil)) (c 998244353)) (c 13)) tNil)) (tVar 1)))))
/-- a tape stands at t -/
def Tape (H : Hp) (t : Addr) : Prop := ∃ d m, H t = some (.dK (tapeKv d m)) ∧ Rng d m
/-- H with another tape at t -/
def Drawn (H : Hp) (t : Addr) (H' : Hp) : Prop := ∃ d m, H' = upd H t (.dK (tapeKv d m)) ∧ Rng d m
def spPick : Sp := fun vs H Q _ => ∃ (t : Addr) (n : Int), vs = [.ref t, .int n] ∧ Tape H t ∧ 0 < n ∧ n < 2 ^ 30 ∧
  ∀ r H', 0 ≤ r → r < n → Drawn H t H' → Q (.int r) H'
theorem get_d {H : Hp} {t : Addr} {d m : Int} (h : H t = some (.dK (tapeKv d m))) : DGet H t (.str "digits") (some (.int d)) := DGet.k (k := .inr "digits") h
theorem get_m {H : Hp} {t : Addr} {d m : Int} (h : H t = some (.dK (tapeKv d m))) : DGet H t (.str "mixed") (some (.int m)) := DGet.k (k := .inr "mixed") h
theorem put_d {H : Hp} {t : Addr} {d m : Int} (e : Int) (h : H t = some (.dK (tapeKv d m))) : DPut H t (.str "digits") (.int e) (upd H t (.dK (tapeKv e m))) := DPut.k (k := .inr "digits") h (by show 2 < sizeLine; decide)
theorem put_m {H : Hp} {t : Addr} {d m : Int} (e : Int) (h : H t = some (.dK (tapeKv d m))) : DPut H t (.str "mixed") (.int e) (upd H t (.dK (tapeKv d e))) := DPut.k (k := .inr "mixed") h (by show 2 < sizeLine; decide)
theorem pure_pick (vs : List V) (H : Hp) (Q : VK) (E : XK) (h : spPick vs H Q E) : t_pick { nx := fun _ H' => Q .non H', rt := Q } (start NPick vs) H := by
  obtain ⟨t, n, rfl, ⟨d, m, hT, hd, hm, hm2⟩, hn, hn2, k⟩ := h
  refine ⟨_, rfl, t, _, rfl, get_d hT, _, rfl, d, n, rfl, rfl, _, rfl, ?_⟩
  refine ite2 (fun hge => ?_) (fun _ => ?_)
  · have hge' := of_decide_eq_true hge
    refine ⟨_, rfl, t, _, rfl, get_d hT, .inl ⟨_, rfl, _, rfl, _, _, rfl, rfl, hn, ?_⟩⟩
    refine ⟨_, rfl, t, _, rfl, get_d hT, _, rfl, _, _, rfl, rfl, ⟨by omega, by omega⟩, _, rfl, t, _, rfl, put_d _ hT, ?_⟩
    refine ⟨_, rfl, ?_⟩
    refine k _ _ (Int.emod_nonneg _ (by omega)) (Int.emod_lt_of_pos _ hn) ⟨_, m, rfl, ?_, hm, hm2⟩
    rw [Int.fdiv_eq_ediv_of_nonneg _ (by omega)]
    exact Int.ediv_nonneg hd (by omega)
  · refine ⟨_, rfl, t, _, rfl, get_m hT, _, _, rfl, rfl, .inl ⟨by omega, by omega⟩, _, _, rfl, rfl, .inl ⟨_, rfl, _, _, rfl, rfl, (by show (0 : Int) < 2147483563; decide), ?_⟩⟩
    refine ⟨_, rfl, t, _, rfl, put_m _ hT, ?_⟩
    have e1 : 0 ≤ (m * 40014 + 1031) % 2147483563 := Int.emod_nonneg _ (by decide)
    have e2 : (m * 40014 + 1031) % 2147483563 < 2147483563 := Int.emod_lt_of_pos _ (by decide)
    generalize hm' : (m * 40014 + 1031) % 2147483563 = m' at *
    refine ⟨_, rfl, t, _, rfl, get_m upd_same, _, _, rfl, rfl, ⟨by decide, by decide, by omega⟩, .inl ⟨_, rfl, _, _, rfl, rfl, (by show (0 : Int) < 2147483399; decide), ?_⟩⟩
    have e3 : 0 ≤ m' ^ (2 : Int).toNat % 2147483399 := Int.emod_nonneg _ (by decide)
    have e4 : m' ^ (2 : Int).toNat % 2147483399 < 2147483399 := Int.emod_lt_of_pos _ (by decide)
    generalize hx' : m' ^ (2 : Int).toNat % 2147483399 = x at *
    refine ⟨_, rfl, _, _, rfl, rfl, ⟨by decide, by decide, by omega⟩, .inl ⟨_, rfl, _, _, rfl, rfl, (by show (0 : Int) < 998244353; decide), _, _, rfl, rfl, ⟨by decide, by decide⟩, .inl ⟨_, rfl, _, rfl, _, _, rfl, rfl, hn, ?_⟩⟩⟩
    exact k _ _ (Int.emod_nonneg _ (by omega)) (Int.emod_lt_of_pos _ hn) ⟨d, m', rfl, hd, e1, by omega⟩

/-! ### one of things -/
abbrev NOne : List Str := ["tape", "things"]
def t_one (K : PySem.W.Frag) : TS := tRet (tOp (rIxL K) (tVar 1) (tCall spPick [] E0 (tCons (tVar 0) (tCons (tCB (rLen K) (tCons (tVar 1) tNil)) tNil))))
def spOne (K : PySem.W.Frag) : Sp := fun vs H Q _ => ∃ (t l : Addr) (xs : List V), vs = [.ref t, .ref l] ∧ Tape H t ∧ SqL K H l xs ∧ l ≠ t ∧ 0 < xs.length ∧ xs.length < 2 ^ 30 ∧
  ∀ (i : Nat) v H', xs[i]? = some v → Drawn H t H' → Q v H'
theorem seq_drawn {K : PySem.W.Frag} {H H' : Hp} {t l : Addr} {xs : List V} (h : SqL K H l xs) (n : l ≠ t) (dr : Drawn H t H') : SqL K H' l xs := by
  obtain ⟨d, m, rfl, _⟩ := dr
  rcases h with (h | ⟨o, h⟩) | h
  · exact .inl (.inl (by rw [upd_ne n]; exact h))
  · exact .inl (.inr ⟨o, by rw [upd_ne n]; exact h⟩)
  · exact .inr h
theorem pure_one {K : PySem.W.Frag} (vs : List V) (H : Hp) (Q : VK) (E : XK) (h : spOne K vs H Q E) : t_one K { nx := fun _ H' => Q .non H', rt := Q } (start NOne vs) H := by
  obtain ⟨t, l, xs, rfl, hT, hl, ne, h0, h1, k⟩ := h
  refine ⟨_, rfl, _, rfl, _, rfl, l, xs, rfl, .inl hl, t, _, rfl, hT, by omega, by omega, fun r H' r0 r1 dr => ?_⟩
  obtain ⟨i, rfl⟩ : ∃ i : Nat, r = (i : Int) := ⟨r.toNat, by omega⟩
  have hi : i < xs.length := by omega
  refine ⟨l, xs, _, xs[i], rfl, rfl, seq_drawn hl ne dr, atI_nat (List.getElem?_eq_getElem hi), ?_⟩
  exact k i _ H' (List.getElem?_eq_getElem hi) dr
end Tp

set_option maxHeartbeats 4000000
namespace Tp
open PySem PySem.Spec PyProof.Rows L2
def keyD : Key → PyData
  | .inl i => .int i
  | .inr x => .str x
/-- v stands for the data d: what Dp says, or a dict with ints as values -/
inductive Dat (K : PySem.W.Frag) (H : Hp) : V → PyData → Prop
  | dp {v : V} {d : PyData} : Dp K H v d → Dat K H v d
  | dk {a : Addr} {kvs : List (Key × Int)} : H a = some (.dK (kvs.map fun p => (p.1, V.int p.2))) → Dat K H (.ref a) (.dict (kvs.map fun p => (keyD p.1, .int p.2)))
mutual
theorem dp_noDict {K : PySem.W.Frag} {H : Hp} : ∀ (d : PyData) (v : V), Dp K H v d → d.hasDict = false
  | .none, _, _ => rfl
  | .bool _, _, _ => rfl
  | .int _, _, _ => rfl
  | .str _, _, _ => rfl
  | .list ds, _, h => by
    cases h with
    | lst _ ha => simpa only [PyData.hasDict] using dpAll_noDict ds _ ha
  | .tuple ds, _, h => by
    cases h with
    | tup _ ha => simpa only [PyData.hasDict] using dpAll_noDict ds _ ha
  | .dict _, _, h => by cases h
theorem dpAll_noDict {K : PySem.W.Frag} {H : Hp} : ∀ (ds : List PyData) (vs : List V), DpAll K H vs ds → PyData.hasDictAll ds = false
  | [], _, _ => rfl
  | d :: ds, _, h => by
    cases h with
    | cons h1 h2 => simp only [PyData.hasDictAll, dp_noDict d _ h1, dpAll_noDict ds _ h2, Bool.or_self]
end
theorem reads_keys {h : Heap} (P : Program) (w : World) : ∀ {kvs : List (Key × Int)} {vs : List (Key × Value)} {es : List DictEntry}, KV (kvs.map fun p => (p.1, V.int p.2)) vs → Pairs (mixKind P w) es vs →
    ReadsAll h (es.map (·.key)) ((kvs.map fun p => (keyD p.1, PyData.int p.2)).map (·.1)) [] ∧ ReadsAll h (es.map (·.val)) ((kvs.map fun p => (keyD p.1, PyData.int p.2)).map (·.2)) []
  | [], _, _, r, q => by
    cases r
    cases q
    exact ⟨.nil, .nil⟩
  | (k, i) :: kvs, _, _, r, q => by
    cases r with
    | cons r1 r2 =>
      cases q with
      | cons q1 q2 q3 =>
        obtain ⟨ih1, ih2⟩ := reads_keys (h := h) P w r2 q3
        obtain ⟨e1, t, e2⟩ := r1
        dsimp only at e1 e2
        constructor
        · have q1' := q1
          rw [← e1, mixKind_is] at q1'
          rcases keyIs_shape q1' with ⟨j, u, rfl, e⟩ | ⟨x, u, rfl, e⟩
          · rw [List.map_cons, e]
            exact ReadsAll.cons (as := []) (Reads.int j u) ih1
          · rw [List.map_cons, e]
            exact ReadsAll.cons (as := []) (Reads.str x u) ih1
        · rw [List.map_cons, q2, e2]
          exact ReadsAll.cons (as := []) (Reads.int i t) ih2
section
variable {X : Cx} {pins : List (Addr × Obj)} {σ : L2.St} {H : Hp} {s : Shared}
theorem dat_reads (I : Inv X pins σ H s) {v : V} {u : Value} {d : PyData} (h : Dat X.K H v d) (r : RelV v u) : ∃ as, Reads s.heap u d as ∧ (d.hasDict = true → sysModules ∉ as) := by
  cases h with
  | dp h =>
    obtain ⟨as, q⟩ := Dp.reads I d v u h r
    exact ⟨as, q, PySem.PyData.noDict_hsm (dp_noDict d v h)⟩
  | @dk a kvs h =>
    cases r
    obtain ⟨_, hsm, vs, rv, o, es, ep, ho, ⟨hc, _, _⟩, hd, _, hp, _⟩ := I.hok a _ h
    obtain ⟨q1, q2⟩ := reads_keys (h := s.heap) X.prog X.w rv hp
    refine ⟨_, Reads.dict ho hc hd q1 q2, fun _ hm => ?_⟩
    have e : sysModules = a := by simpa using hm
    rw [e] at hsm
    simp at hsm
end
/-- repr of data -/
def rRepr (K : PySem.W.Frag) : List V → Hp → VK → Prop := fun xs H Q => ∃ v d, xs = [v] ∧ Dat K H v d ∧ d.showable = true ∧ d.shown.length ≤ sizeLine ∧ d.depth ≤ 60 ∧ Q (.str d.shown) H
theorem call_reprD {X : Cx} (hg : X.A.guards = some []) (hu : X.A.units + 64 < cLine) : CallR X (.builtin "repr") (rRepr X.K) := by
  intro pins s σ H xs us Q I r h
  obtain ⟨v, d, rfl, hD, hs, hz, hd, q⟩ := h
  obtain ⟨u, rfl⟩ : ∃ u, us = [u] := by
    cases r with
    | cons _ r2 => cases r2; exact ⟨_, rfl⟩
  have ru : RelV v u := by
    cases r with
    | cons r1 _ => exact r1
  obtain ⟨as, hr, hm⟩ := dat_reads I hD ru
  cases hr with
  | none => exact PySem.P.repr_of_none ⟨.str _, H, I.tok _, ⟨_, rfl⟩, q⟩
  | bool b => exact PySem.P.repr_of_bool ⟨.str _, H, I.tok _, ⟨_, rfl⟩, q⟩
  | int i t => exact PySem.P.repr_of_int (by simpa [PyData.showable] using hs) ⟨.str _, H, I.tok _, ⟨_, rfl⟩, q⟩
  | str x t => exact PySem.P.repr_of_str ⟨.str _, H, I.tok _, ⟨_, rfl⟩, q⟩ (by simpa only [PyData.shown] using hz)
  | list h1 h2 h3 h4 => exact repr_of_reads' (.list h1 h2 h3 h4) hs hm hg (by omega) (fun _ _ e => e) (fun h' u tk hk => ⟨.str _, H, I.kept (h' := h') (t' := tk) hk, ⟨_, rfl⟩, q⟩) hz
  | tuple h1 h2 h3 h4 => exact repr_of_reads' (.tuple h1 h2 h3 h4) hs hm hg (by omega) (fun _ _ e => e) (fun h' u tk hk => ⟨.str _, H, I.kept (h' := h') (t' := tk) hk, ⟨_, rfl⟩, q⟩) hz
  | dict h1 h2 h3 h4 h5 => exact repr_of_reads' (.dict h1 h2 h3 h4 h5) hs hm hg (by omega) (fun _ _ e => e) (fun h' u tk hk => ⟨.str _, H, I.kept (h' := h') (t' := tk) hk, ⟨_, rfl⟩, q⟩) hz
end Tp

set_option maxHeartbeats 4000000
/-! An own error class over ValueError, called by a keyword. -/
namespace Kx
open PySem PySem.W PySem.Calls PyProof.Rows PySem.HandSPX
section
open Builtin Builtin.ObjectAttr
variable {prog : Program} {w : World} {M : Model} {A : Around} {E : Value → Shared → Prop} {R : Result → Shared → Prop} {h : Heap} {g : Array GenState} {d : Drawn} {t : Nat} {os : OsState}
variable {nm q : Str} {C N : Addr} {bs bm bmB : List Value} {hdct : Bool} {sn : List Str} {sub : List Value} {ab : Bool} {col : Option Bool} {dd : Option Addr}
  {k0 k1 k2 k3 k5 : Option Value} {B newId initId : String} {kw : List (Str × Value)}
abbrev Ecls (nm q : Str) (C N : Addr) (bs bm : List Value) (hdct : Bool) (sn : List Str) (sub : List Value) (ab : Bool) (col : Option Bool) (dd : Option Addr) (k0 k1 k2 k3 k5 : Option Value) (newId : String) (h : Heap) : Prop :=
  h.get? C = some (excClassObj nm q C N bs bm hdct sn sub ab col dd k0 k1 k2 k3 k5 newId)
theorem checkN (F : ExcBaseFacts B newId initId bmB) (hT : ∀ X : String, bm.contains (.type X) = bmB.contains (.type X)) {Q : Unit → Shared → Prop}
    (hC : Ecls nm q C N bs bm hdct sn sub ab col dd k0 k1 k2 k3 k5 newId h) (hq : Q () ⟨h, g, d, t, os⟩) :
    wpAny M A (checkBuiltinCall newId ⟨[.ref C], kw⟩) Q E ⟨h, g, d, t, os⟩ := by
  have hin : (Value.ref C :: bm).contains (.type B) = true := by
    rw [List.contains_cons, hT, F.hasB]
    simp
  have st := F.noStar
  have hC' : h.get? C = some (excClassObj nm q C N bs bm hdct sn sub ab col dd k0 k1 k2 k3 k5 newId) := hC
  simp only [checkBuiltinCall, F.newKind, F.newSplit, F.newRow]
  repeat (first
    | refine wpAny_loadPart_at hC' ?_
    | (refine wpAny_isSubtype_exc hC' ?_; rw [hin])
    | refine wpAny_staticBase_exc hC' ?_
    | refine wpAny_madeBy_exc hC' ?_
    | simp only [bne_self_eq_false, Bool.false_eq_true, if_false]
    | wp_step)
  exact hq
theorem newK (F : ExcBaseFacts B newId initId bmB) (hT : ∀ X : String, bm.contains (.type X) = bmB.contains (.type X))
    (hC : Ecls nm q C N bs bm hdct sn sub ab col dd k0 k1 k2 k3 k5 newId h)
    (hq : R (.ok (.ret (.ref (h.objs.size + 1)))) ⟨(h.push (W.kdv_tup [])).push (excO C h.objs.size), g, d, t, os⟩) :
    codeAny (model prog w) A (.builtin newId ⟨[.ref C], kw⟩) R ⟨h, g, d, t, os⟩ := by
  have en := F.ends
  have hC' : h.get? C = some (excClassObj nm q C N bs bm hdct sn sub ab col dd k0 k1 k2 k3 k5 newId) := hC
  have inB : (Value.ref C :: bm).contains (.type B) = true := by
    rw [List.contains_cons, hT, F.hasB]
    simp
  have noA : (Value.ref C :: bm).contains (.type "AttributeError") = false := by
    rw [List.contains_cons, hT, F.noAttr]
    rfl
  have noN : (Value.ref C :: bm).contains (.type "NameError") = false := by
    rw [List.contains_cons, hT, F.noName]
    rfl
  have hz : ([] : List Value).length ≤ sizeLine := by decide
  refine codeAny_builtinAt F.entry ?_
  unfold Builtin.«BaseException.__new__»
  refine PySem.wpAt_bind ?_
  show PySem.wpAt _ _ _ (stack >>= _) _ _ _
  refine PySem.wpAt_bind (PySem.wpAt_stack fun p below => PySem.wpAt_of_wpAny ?_)
  wp_walk
  refine PySem.wpAt_of_wpAny ?_
  rw [F.owner]
  repeat (first
    | with_reducible refine wpAny_madeHere_exc F.canon hC' ?_
    | with_reducible refine wpAny_loadPart_at hC' ?_
    | (with_reducible refine wpAny_isSubtype_exc hC' ?_; first | rw [inB] | rw [noA] | rw [noN])
    | wp_step)
  show R _ _
  rw [Heap.size_push]
  exact hq
theorem typeK (F : ExcBaseFacts B newId initId bmB) (hT : ∀ X : String, bm.contains (.type X) = bmB.contains (.type X)) {fI : Addr} {Q : Fin → Shared → Prop}
    (hC : Ecls nm q C N bs bm hdct sn sub ab col dd k0 k1 k2 k3 k5 newId h)
    (hi : W.Looks (model prog w) h (typeLookup (.ref C) "__init__") (some (.ref fI))) (hb : ∀ self, W.Looks (model prog w) h (bindSpecial (.ref fI) self) (.ref fI, [self]))
    (hq : codeAny (model prog w) A (.call (.ref fI) ⟨[.ref (h.objs.size + 1)], kw⟩)
      (fun r s' => match r with
        | .ok (.ret v) => v = .none ∧ Q (.done (.ret (.ref (h.objs.size + 1)))) s'
        | .ok _ => False
        | .error e => E e s')
      ⟨(h.push (W.kdv_tup [])).push (excO C h.objs.size), g, d, t, os⟩) :
    wpAny (model prog w) A (Builtin.«type.__call__» ⟨[.ref C], kw⟩) Q E ⟨h, g, d, t, os⟩ := by
  have hC' : h.get? C = some (excClassObj nm q C N bs bm hdct sn sub ab col dd k0 k1 k2 k3 k5 newId) := hC
  repeat (first
    | with_reducible refine wpAny_loadPart_at hC' ?_
    | with_reducible refine wpAny_madeBy_exc hC' ?_
    | wp_step)
  refine codeAny_call_builtin_code (Code.quiet_builtin _ F.quiet) (checkN F hT hC ?_)
  refine newK F hT hC ?_
  show wpAny _ _ _ _ _ _
  have k : ∀ b o, h.get? b = some o → ((h.push (W.kdv_tup [])).push (excO C h.objs.size)).get? b = some o :=
    fun b o e => Heap.get?_push_of_some _ (Heap.get?_push_of_some _ e)
  have hD := k _ _ hC'
  have ha : ((h.push (W.kdv_tup [])).push (excO C h.objs.size)).get? (h.objs.size + 1) = some (excO C h.objs.size) := by heap_get
  have inC : (Value.ref C :: bm).contains (.ref C) = true := by simp
  have i1 := hi.keeps k
  have b1 := (hb (.ref (h.objs.size + 1))).keeps k
  unfold isInstance
  repeat (first
    | with_reducible refine wpAny_loadPart_at ha ?_
    | (with_reducible refine wpAny_isSubtype_exc hD ?_; rw [inC])
    | wp_step)
  show wpAny _ _ (typeLookup (.ref C) _) _ _ _
  refine i1.at ?_
  refine wpAny_holding (wpAny_bind (b1.at ?_))
  refine wpAny_bind (wpAny_call (codeAny_mono hq fun r s' z => ?_))
  cases r with
  | error e => exact z
  | ok fl =>
    cases fl with
    | ret v =>
      obtain ⟨rfl, z⟩ := z
      first
        | exact wpAny_pure (wpAny_pure z)
        | (wp_walk; exact z)
    | next => exact z.elim
    | brk => exact z.elim
    | cont => exact z.elim
theorem callK (F : ExcBaseFacts B newId initId bmB) (hT : ∀ X : String, bm.contains (.type X) = bmB.contains (.type X)) {fI : Addr}
    (hC : Ecls nm q C N bs bm hdct sn sub ab col dd k0 k1 k2 k3 k5 newId h)
    (hi : W.Looks (model prog w) h (typeLookup (.ref C) "__init__") (some (.ref fI))) (hb : ∀ self, W.Looks (model prog w) h (bindSpecial (.ref fI) self) (.ref fI, [self]))
    (hq : codeAny (model prog w) (A.under (.builtin "type.__call__" ⟨[.ref C], kw⟩)) (.call (.ref fI) ⟨[.ref (h.objs.size + 1)], kw⟩)
      (W.InitBack (h.objs.size + 1) R) ⟨(h.push (W.kdv_tup [])).push (excO C h.objs.size), g, d, t, os⟩) :
    codeAny (model prog w) A (.call (.ref C) ⟨[], kw⟩) R ⟨h, g, d, t, os⟩ := by
  have f1 := tc_lookup
  have f2 := tc_bind (.ref C)
  have hC' : h.get? C = some (excClassObj nm q C N bs bm hdct sn sub ab col dd k0 k1 k2 k3 k5 newId) := hC
  have ty : (⟨h, g, d, t, os⟩ : Shared).TypeIs (.ref C) "type" := ⟨_, hC, rfl⟩
  refine codeAny_of_tree ?_
  show wpAny _ _ (callAny (.ref C) _) _ _ _
  repeat (any_goals (first
    | assumption
    | with_reducible refine wpAny_loadPart_at hC' ?_
    | wp_step))
  refine ⟨rfl, ?_⟩
  refine codeAny_call_builtin_at (Code.quiet_builtin _ (by decide +kernel)) entry_typeCall
    (wpAny_check_type_call_sub hC (typeK F hT hC hi hb ?_))
  refine codeAny_mono hq fun r s' z => ?_
  cases r with
  | error e => exact z
  | ok fl => cases fl <;> exact z
end
end Kx

set_option maxHeartbeats 4000000
/-! Errors of own classes as values: made, their fields read, asked for their classes. -/
namespace Tp
open PySem PySem.Spec PyProof.Rows L2

/-- what the written part says of an own error class with an __init__(self, f): self.f = f -/
structure XCls (K : PySem.W.Frag) (C fI : Addr) (f : Str) : Prop where
  oex : OexC K C
  iC : PySem.W.findIn K (.ref C) "__init__" = some (some (.ref fI))
  tI : PySem.W.typeIn K (.ref fI) = some (.type "function")
  noF : PySem.W.findIn K (.ref C) f = some none
/-- what it says of any own error class, for isinstance and for reading fields -/
structure XIs (K : PySem.W.Frag) (C : Addr) : Prop where
  ga : PySem.W.findIn K (.ref C) "__getattribute__" = some (some (.builtin "BaseException.__getattribute__"))
  gg : PySem.W.findIn K (.ref C) "__getattr__" = some none
  ex : PySem.W.subIn K (.ref C) (.type "BaseException") = some true
  hd : PySem.W.hasDictIn K C = true
  ha : PySem.W.findIn K (.ref C) "__class__" = some (some (.builtin "object.__class__"))
  hm : PySem.W.mroIn K C (.type "object") = some true
/-- .. and of object's __class__ -/
structure XObj (K : PySem.W.Frag) : Prop where
  hn : PySem.W.specialIn K (.builtin "object.__class__") "__get__" = some (some (.builtin "getset_descriptor.__get__"))
  tk : PySem.W.takesIn K (.builtin "object.__class__") = some true
/-- at a stands an error of the class at C that holds v under f -/
def ErrF (H : Hp) (a C : Addr) (f : Str) (v : V) : Prop := ∃ dx, H a = some (exo a C (some dx)) ∧ H dx = some (exd dx [(f, v)])
/-- at a stands an error of the class at C -/
def ErrAt (H : Hp) (a C : Addr) : Prop := (∃ f v, ErrF H a C f v) ∨ H a = some (ExO (.ref C) a)

/-- what __init__ promises -/
def spInit (C : Addr) (f : Str) : Sp := fun vs H Q _ => ∃ (a : Addr) (v : V), vs = [.ref a, v] ∧ H a = some (exo a C none) ∧
  ∀ dx, H dx = none → dx ≠ a → Q .non (upd (upd H dx (exd dx [(f, v)])) a (exo a C (some dx)))
/-- an error of one value made -/
def rMade (C : Addr) (f : Str) (v : V) (H : Hp) (Q : VK) : Prop := ∀ a dx, H a = none → H dx = none → dx ≠ a → Q (.ref a) (upd (upd H dx (exd dx [(f, v)])) a (exo a C (some dx)))
section
variable {X : Cx} {pins : List (Addr × Obj)} {σ : L2.St} {H : Hp} {s : Shared} {Q : VK} {C fI : Addr} {f : Str} {k : Nat} {fd : FuncData} {ps : List Str} {v : V} {u : Value}
theorem made_end {H1 : Hp} {a : Addr} (h : rMade C f v H1 Q) (n : H1 a = none) : spInit C f [.ref a, v] (upd H1 a (exo a C none)) (fun z H2 => z = .non ∧ Q (.ref a) H2) E0 := by
  refine ⟨a, v, rfl, upd_same, fun dx nd ne => ⟨rfl, ?_⟩⟩
  have nd' : H1 dx = none := by
    rw [upd_ne ne] at nd
    exact nd
  have e : upd (upd (upd H1 a (exo a C none)) dx (exd dx [(f, v)])) a (exo a C (some dx)) = upd (upd H1 dx (exd dx [(f, v)])) a (exo a C (some dx)) := by
    funext b
    by_cases hb : b = a
    · rw [hb, upd_same, upd_same]
    · rw [upd_ne hb, upd_ne hb]
      by_cases hd : b = dx
      · rw [hd, upd_same, upd_same]
      · rw [upd_ne hd, upd_ne hd, upd_ne hb]
  rw [e]
  exact h a dx n nd' ne
/-- both ways of calling: us and kw as the callee binds them -/
theorem run_err {us : List Value} {kw : List (Str × Value)} (T : XCls X.K C fI f) (F : FnOk X.prog X.w X.K X.mg X.base CX0 k fI fd ps (spInit C f)) (hr : Room (k + 1) X.A)
    (hsh : us = [u] ∧ kw = [] ∨ us = []) (hb : ∀ (s : Shared) (z : Value), X.K.In s.heap → BindsTo s fd ⟨z :: us, kw⟩ (ps.zip [z, u]))
    (I : Inv X pins σ H s) (r : RelV v u) (h : rMade C f v H Q) : wpAny (model X.prog X.w) X.A (call (.ref C) us kw) (EP X pins σ Q) X.xe s := by
  obtain ⟨nm, q, N, bs, bm, sn, sub, ab, col, dd, k0, k1, k2, k3, k5, hC, hbm⟩ := T.oex.cls
  obtain ⟨hp, g, dr, tk, os⟩ := s
  have big : hp.objs.size ≤ hp.objs.size + 1 := Nat.le_succ _
  have n0 : H (hp.objs.size + 1) = none := I.hok.fresh big
  have hq := made_end h n0
  have kk : ∀ b o, hp.get? b = some o → ((hp.push (PySem.W.kdv_tup us)).push (PySem.HandSPX.excO C hp.objs.size)).get? b = some o :=
    fun b o e => Heap.get?_push_of_some _ (Heap.get?_push_of_some _ e)
  have hget : ((hp.push (PySem.W.kdv_tup us)).push (PySem.HandSPX.excO C hp.objs.size)).get? (hp.objs.size + 1) = some (PySem.HandSPX.excO C hp.objs.size) := by heap_get
  have I2 : Inv X pins σ (upd H (hp.objs.size + 1) (exo (hp.objs.size + 1) C none)) ⟨(hp.push (PySem.W.kdv_tup us)).push (PySem.HandSPX.excO C hp.objs.size), g, dr, tk, os⟩ :=
    I.laid (t' := tk) (a := hp.objs.size + 1) (o := exo (hp.objs.size + 1) C none) (h' := (hp.push (PySem.W.kdv_tup us)).push (PySem.HandSPX.excO C hp.objs.size)) kk big (exo_ok hget)
  have r2 : Vals [V.ref (hp.objs.size + 1), v] [Value.ref (hp.objs.size + 1), u] := .cons rfl (.cons r .nil)
  have run := F.run (X.A.under (.builtin "type.__call__" ⟨.ref C :: us, kw⟩)) X.stack _ _ ⟨Value.ref (hp.objs.size + 1) :: us, kw⟩ [Value.ref (hp.objs.size + 1), u] _ _ E0 (hr.make C us kw)
    (I2.env0.make C us kw) (hb _ _ I2.kIn) r2 hq
  have fin : ∀ r s', CR CX0 X.stack X.prog X.w (upd H (hp.objs.size + 1) (exo (hp.objs.size + 1) C none)) ⟨(hp.push (PySem.W.kdv_tup us)).push (PySem.HandSPX.excO C hp.objs.size), g, dr, tk, os⟩
      (fun z H2 => z = .non ∧ Q (.ref (hp.objs.size + 1)) H2) E0 r s' → PySem.W.InitBack (hp.objs.size + 1) (fun r s' => match r with
        | .ok (.ret a) => EP X pins σ Q a s'
        | .ok _ => False
        | .error e => X.xe e s') r s' := by
    intro r s' z
    cases r with
    | error e => exact z.elim
    | ok fl =>
      cases fl with
      | ret u' =>
        obtain ⟨z0, H3, os3, bare3, un3, hok3, rz, ez, q3⟩ := z
        subst ez
        exact ⟨rz, ⟨V.ref (hp.objs.size + 1), H3, I2.call' (ch := []) os3 un3 hok3 bare3 (fun b z => absurd z (by simp)), rfl, q3⟩⟩
      | next => exact z.elim
      | brk => exact z.elim
      | cont => exact z.elim
  have one : us.length ≤ sizeLine := by
    rcases hsh with ⟨rfl, _⟩ | rfl
    · show 1 ≤ sizeLine
      decide
    · exact Nat.zero_le _
  refine wpAny_call ?_
  rcases hsh with ⟨rfl, rfl⟩ | rfl
  · exact PySem.HandSPX.call_own PySem.F.excBase_ValueError (fun Y => PySem.HandSPX.refsVE_contains Y bm hbm) (I.kIn _ _ hC) (PySem.W.looks_findIn I.kIn T.iC)
      (fun self => PySem.W.bind_fn I.kIn self T.tI) one (codeAny_mono run fin)
  · exact Kx.callK PySem.F.excBase_ValueError (fun Y => PySem.HandSPX.refsVE_contains Y bm hbm) (I.kIn _ _ hC) (PySem.W.looks_findIn I.kIn T.iC)
      (fun self => PySem.W.bind_fn I.kIn self T.tI) (codeAny_mono run fin)
end
end Tp

set_option maxHeartbeats 4000000
namespace Tp
open PySem PySem.Spec PyProof.Rows L2
/-- C(e), C(f=e) -/
def tErr (C : Addr) (f : Str) (ta : TA) : TE := fun σ H Q => ta σ H fun vs H1 => ∃ v, vs = [v] ∧ rMade C f v H1 Q
/-- C(), C without an __init__ of its own -/
def tErr0 (C : Addr) : TE := fun _ H Q => ∀ a, H a = none → Q (.ref a) (upd H a (ExO (.ref C) a))
def tXfld (K : PySem.W.Frag) (f : Str) (te : TE) : TE := fun σ H Q => te σ H fun x H1 => ∃ a C v, x = .ref a ∧ XIs K C ∧ PySem.W.findIn K (.ref C) f = some none ∧ ErrF H1 a C f v ∧ Q v H1
/-- isinstance(error, class) -/
def rIsX (K : PySem.W.Frag) : List V → Hp → VK → Prop := fun xs H Q => ∃ (a C : Addr) (c : V) (u : Value) (b : Bool), xs = [.ref a, c] ∧ XIs K C ∧ ErrAt H a C ∧ ClsV c u ∧ PySem.W.kitOne K (.ref C) u = some b ∧ Q (.bl b) H
section
variable {X : Cx} {C fI : Addr} {f n x : Str} {k : Nat} {fd : FuncData} {ps : List Str} {p pos kp : Pos} {e : Expr} {te : TE} {ta : TA}
theorem pe_err1 (T : XCls X.K C fI f) (F : FnOk X.prog X.w X.K X.mg X.base CX0 k fI fd ps (spInit C f)) (hr : Room (k + 1) X.A) (hb : Binds X.K fd ps []) (hl : ps.length = 2) (hg : Gl X x) (hm : X.mg x = some (.ref C)) (ha : PA X [e] ta)
    (hdb : (x == ("__debug__" : Str)) = false := by decide) (hs : starEach [e] X.env = (false, eval e X.env) :: starEach [] X.env := by rfl) (hpl : (backTo pos (starEach [] X.env)).any (·.1) = false := by rfl) :
    PE X (.Call (.Name x p) [e] [] pos) (tErr C f ta) := by
  refine ⟨fun pins s σ H Q I h => ?_⟩
  refine wpAny_Call_Name_kw (ld_glob I hg hm ?_ hdb)
  refine PySem.W.callWith_K (h₀ := X.base) I.ok.mod.kin T.oex.kC (thn (ha.run pos pins s σ H _ I h) fun us s1 ⟨vs, H1, I1, r1, v, ev, q1⟩ => ⟨I1.kIn, ?_⟩) hs hpl
  subst ev
  obtain ⟨u, rfl, rv⟩ : ∃ u, us = [u] ∧ RelV v u := by
    cases r1 with
    | cons rv rn =>
      cases rn
      exact ⟨_, rfl, rv⟩
  exact run_err T F hr (.inl ⟨rfl, rfl⟩) (fun s z X' => by
    have q := hb s [z, u] X' (by show 2 = ps.length; rw [hl])
    exact q) I1 rv q1
theorem pe_errK (T : XCls X.K C fI f) (F : FnOk X.prog X.w X.K X.mg X.base CX0 k fI fd ps (spInit C f)) (hr : Room (k + 1) X.A) (hb : ∀ (s : Shared) (z u : Value), X.K.In s.heap → BindsTo s fd ⟨[z], [(n, u)]⟩ (ps.zip [z, u])) (hg : Gl X x) (hm : X.mg x = some (.ref C))
    (hk : PK X [⟨some n, e, kp⟩] ta) (hall : (backToKw pos (keywordEach [⟨some n, e, kp⟩] X.env)).all (·.1.isSome) = true := by rfl) (hks : (backToKw pos (keywordEach [⟨some n, e, kp⟩] X.env)).filterMap (·.1) = [n] := by rfl) (hdb : (x == ("__debug__" : Str)) = false := by decide)
    (hpl : ((backTo pos (starEach [] X.env)).any (·.1) || (backToKw pos (keywordEach [⟨some n, e, kp⟩] X.env)).any (·.1.isNone)) = false := by rfl) :
    PE X (.Call (.Name x p) [] [⟨some n, e, kp⟩] pos) (tErr C f ta) := by
  refine ⟨fun pins s σ H Q I h => ?_⟩
  refine wpAny_Call_Name_kw (ld_glob I hg hm ?_ hdb)
  refine PySem.W.callWith_KW0 (h₀ := X.base) I.ok.mod.kin T.oex.kC hall (thn (hk.run pos pins s σ H _ I h) fun us s1 ⟨vs, H1, I1, r1, v, ev, q1⟩ => ⟨I1.kIn, ?_⟩) hpl
  subst ev
  obtain ⟨u, rfl, rv⟩ : ∃ u, us = [u] ∧ RelV v u := by
    cases r1 with
    | cons rv rn =>
      cases rn
      exact ⟨_, rfl, rv⟩
  rw [hks]
  exact run_err (us := []) (kw := [(n, u)]) T F hr (.inr rfl) (fun s z X' => hb s z u X') I1 rv q1
theorem pe_err0 {bmB : List Value} {B newId initId : String} (F : ExcBaseFacts B newId initId bmB) (q : PySem.W.excIn X.K C bmB newId = true) (hg : Gl X x) (gC : X.mg x = some (.ref C)) (kC : PySem.W.keepIn X.K (.ref C) = true)
    (hdb : (x == ("__debug__" : Str)) = false := by decide) : PE X (.Call (.Name x p) [] [] pos) (tErr0 C) := by
  refine ⟨fun pins s σ H Q I h => ?_⟩
  refine wpAny_Call_Name_kw (ld_glob I hg gC ?_ hdb)
  refine PySem.W.callWith_K0 I.kIn kC ?_
  show wpAny _ _ (call (.ref C) []) _ _ _
  obtain ⟨bm, N, nm, qn, bs, hdct, sn, sub, ab, col, dd, k0, k1, k2, k3, k5, mN, hC, hN, hni, T⟩ := exc_obj I.kIn q
  refine wpAny_call_exc_subT F T hC hN hni (fun h' a hm => ?_) (Nat.zero_le _)
  have hn : H a = none := I.hok.gone hm.new
  obtain ⟨t, ht, _, _⟩ := hm.there
  exact ⟨.ref a, upd H a (ExO (.ref C) a), I.laidN hm.keeps hm.new hn (exO_ok ht ⟨rfl, rfl⟩ rfl rfl rfl (show 4 < 6 by decide)), rfl, h a hn⟩
/-- error.f -/
theorem pe_xfld (he : PE X e te) (hb : attributeBase e f X.env (eval e X.env) = eval e X.env := by rfl) :
    PE X (.Attribute e f pos) (tXfld X.K f te) := by
  refine ⟨fun pins s σ H Q I h => ?_⟩
  refine attr_of hb (thn (he.run pins s σ H _ I h) fun u s1 hh => ?_)
  obtain ⟨x, H1, I1, rx, a, C, v, ex, T, hno, ⟨dd, ea, ed⟩, q⟩ := hh
  subst ex
  obtain rfl : u = Value.ref a := rx
  obtain ⟨t1, ho⟩ := exo_at I1.hok ea
  obtain ⟨mA, hns, hr⟩ := exd_at I1.hok ed
  obtain ⟨od, hod, hl⟩ := lookIn_ns hns
  have l : List.lookup f [(f, v)] = some v := by simp [List.lookup]
  obtain ⟨u, hu, ru⟩ := RelO.some_of (v := v) (o := mA f) (by rw [← l]; exact hr f)
  have J : PySem.W.InstAt s1.heap a _ C (some od) := ⟨ho, rfl, rfl, hod⟩
  exact HandSPX.exc_get I1.kIn J T.ga T.gg T.ex (PySem.W.findObj_own T.hd hno rfl (by rw [hl, hu])) (handed_of ru) ⟨v, H1, I1.tok _, ru, q⟩
theorem call_isX (O : XObj X.K) : CallR X (.builtin "isinstance") (rIsX X.K) := by
  intro pins s σ H xs us Q I r h
  obtain ⟨a, C, c, u, b, rfl, T, E, k, e, q⟩ := h
  obtain ⟨u1, u2, rfl, r1, r2⟩ := vals2 r
  have e2 := k.eq r2
  subst e2
  obtain rfl : u1 = Value.ref a := r1
  have hcl : (PySem.W.clsIn X.K C).isSome = true := by
    obtain ⟨cd, hc, _⟩ := PySem.W.any_some T.hd
    rw [hc]
    rfl
  obtain ⟨ox, od, J⟩ : ∃ ox od, PySem.W.InstAt s.heap a ox C od := by
    rcases E with ⟨f, v, dx, ea, ed⟩ | ea
    · obtain ⟨t1, ho⟩ := exo_at I.hok ea
      obtain ⟨mA, hns, _⟩ := exd_at I.hok ed
      obtain ⟨od, hod, _⟩ := lookIn_ns hns
      exact ⟨_, some od, ho, rfl, rfl, hod⟩
    · obtain ⟨⟨oe, vs, ho, hz, hd, _⟩, _, _⟩ := I.hok a _ ea
      exact ⟨oe, none, ho, hz.1, by unfold PySem.W.notCls; rw [hd] <;> rfl, by rw [hz.2]; trivial⟩
  exact PySem.W.kia_one (PySem.W.kitx_exc hcl T.ga T.gg T.ex T.ha O.hn O.tk T.hm) I.kIn J e (fun z => nomatch z) fun tk => ⟨.bl b, H, I.kept (t' := tk) fun _ _ z => z, rfl, q⟩
end
end Tp

set_option maxHeartbeats 4000000
/-! Readings that only add to the heap: what they come to, said by a word that stays true. -/
namespace Tp
open PySem PySem.Spec PyProof.Rows L2
abbrev Ex := Evl.Ex
theorem Ex.refl (H : Hp) : Ex H H := Evl.Ex.refl H
theorem Ex.new {H : Hp} {p : Addr} {o : HO} (h : H p = none) : Ex H (upd H p o) := Evl.Ex.new h
theorem ex_tr {H H1 H2 : Hp} (a : Ex H H1) (b : Ex H1 H2) : Ex H H2 := Evl.Ex.trans a b
theorem back {H H' : Hp} {p : Addr} (e : Ex H H') (h : H' p = none) : H p = none := Evl.fresh_back e h
abbrev VP := V → Hp → Prop
/-- a word that stays true while the heap grows -/
def Grows (P : VP) : Prop := ∀ v H H', Ex H H' → P v H → P v H'
def EvM (te : TE) (σ : L2.St) (H : Hp) (P : VP) : Prop := ∀ H1, Ex H H1 → ∀ Q : VK, (∀ v H2, Ex H1 H2 → P v H2 → Q v H2) → te σ H1 Q
/-- item by item -/
inductive AllP (H : Hp) : List VP → List V → Prop
  | nil : AllP H [] []
  | cons {P : VP} {Ps : List VP} {v : V} {vs : List V} : P v H → AllP H Ps vs → AllP H (P :: Ps) (v :: vs)
def GrowsAll (Ps : List VP) : Prop := ∀ P ∈ Ps, Grows P
def EvMs (ta : TA) (σ : L2.St) (H : Hp) (Ps : List VP) : Prop := ∀ H1, Ex H H1 → ∀ Q : List V → Hp → Prop, (∀ vs H2, Ex H1 H2 → AllP H2 Ps vs → Q vs H2) → ta σ H1 Q
theorem AllP.grow {H H' : Hp} (e : Ex H H') : ∀ {Ps : List VP} {vs : List V}, GrowsAll Ps → AllP H Ps vs → AllP H' Ps vs
  | _, _, _, .nil => .nil
  | _, _, g, .cons h t => .cons (g _ List.mem_cons_self _ _ _ e h) (AllP.grow e (fun P hP => g P (List.mem_cons_of_mem _ hP)) t)
theorem AllP.len {H : Hp} : ∀ {Ps : List VP} {vs : List V}, AllP H Ps vs → vs.length = Ps.length
  | _, _, .nil => rfl
  | _, _, .cons _ t => congrArg Nat.succ t.len
theorem AllP.app {H : Hp} : ∀ {Ps Qs : List VP} {vs us : List V}, AllP H Ps vs → AllP H Qs us → AllP H (Ps ++ Qs) (vs ++ us)
  | _, _, _, _, .nil, b => b
  | _, _, _, _, .cons h t, b => .cons h (t.app b)
theorem AllP.get {H : Hp} : ∀ {Ps : List VP} {vs : List V} {i : Nat} {v : V}, AllP H Ps vs → vs[i]? = some v → ∃ P, Ps[i]? = some P ∧ P v H
  | _, _, _, _, .nil, e => by simp at e
  | _, _, 0, _, .cons h _, e => by
    simp at e
    subst e
    exact ⟨_, rfl, h⟩
  | _, _, i + 1, v, .cons _ t, e => by
    obtain ⟨P, h1, h2⟩ := AllP.get (i := i) (v := v) t (by simpa using e)
    exact ⟨P, by simpa using h1, h2⟩
theorem GrowsAll.app {Ps Qs : List VP} (a : GrowsAll Ps) (b : GrowsAll Qs) : GrowsAll (Ps ++ Qs) := fun P h => (List.mem_append.mp h).elim (a P) (b P)
theorem GrowsAll.nil : GrowsAll [] := fun _ h => nomatch h
theorem GrowsAll.cons {P : VP} {Ps : List VP} (a : Grows P) (b : GrowsAll Ps) : GrowsAll (P :: Ps) := fun Q h => by
  rcases List.mem_cons.mp h with rfl | h
  · exact a
  · exact b Q h
theorem GrowsAll.map {α : Type} {f : α → VP} (h : ∀ a, Grows (f a)) (l : List α) : GrowsAll (l.map f) := fun P hP => by
  obtain ⟨a, _, rfl⟩ := List.mem_map.mp hP
  exact h a

section
variable {σ : L2.St} {H : Hp} {P P' : VP} {Ps Qs : List VP} {te ta tb : TE} {tr : TA} {v : V}
theorem em_c (h : ∀ H', Ex H H' → P v H') : EvM (tC v) σ H P := fun H1 e Q q => q v H1 (Ex.refl H1) (h H1 e)
theorem em_var {i : Nat} (hi : σ[i]? = some (some v)) (h : ∀ H', Ex H H' → P v H') : EvM (tVar i) σ H P := fun H1 e Q q => ⟨v, hi, q v H1 (Ex.refl H1) (h H1 e)⟩
theorem em_imp (h : EvM te σ H P) (k : ∀ v H', Ex H H' → P v H' → P' v H') : EvM te σ H P' := fun H1 e Q q => h H1 e Q fun v H2 e2 p => q v H2 e2 (k v H2 (ex_tr e e2) p)
theorem em_mono {H' : Hp} (h : EvM te σ H P) (e : Ex H H') : EvM te σ H' P := fun H1 e1 Q q => h H1 (ex_tr e e1) Q q
theorem ems_nil : EvMs tNil σ H [] := fun H1 _ Q q => q [] H1 (Ex.refl H1) .nil
theorem ems_cons (g : Grows P) (h : EvM te σ H P) (t : EvMs tr σ H Ps) : EvMs (tCons te tr) σ H (P :: Ps) := fun H1 e Q q =>
  h H1 e _ fun v H2 e2 p => t H2 (ex_tr e e2) _ fun vs H3 e3 ps => q (v :: vs) H3 (ex_tr e2 e3) (.cons (g _ _ _ e3 p) ps)
theorem em_tup (g : GrowsAll Ps) (h : EvMs tr σ H Ps) (hl : Ps.length ≤ 1000) (k : ∀ p vs H', Ex H H' → AllP H' Ps vs → H' p = some (.tup vs) → H p = none → P (.ref p) H') : EvM (tTup tr) σ H P := fun H1 e Q q =>
  h H1 e _ fun vs H2 e2 ps => ⟨by rw [ps.len]; exact Nat.le_trans hl (by decide), fun p hp => q _ _ (ex_tr e2 (Ex.new hp)) (k p vs _ (ex_tr (ex_tr e e2) (Ex.new hp)) (ps.grow (Ex.new hp) g) upd_same (back (ex_tr e e2) hp))⟩
theorem em_lst (g : GrowsAll Ps) (h : EvMs tr σ H Ps) (hl : Ps.length ≤ 1000) (k : ∀ p vs H', Ex H H' → AllP H' Ps vs → H' p = some (.lst vs) → H p = none → P (.ref p) H') : EvM (tLst tr) σ H P := fun H1 e Q q =>
  h H1 e _ fun vs H2 e2 ps => ⟨by rw [ps.len]; exact Nat.le_trans hl (by decide), fun p hp => q _ _ (ex_tr e2 (Ex.new hp)) (k p vs _ (ex_tr (ex_tr e e2) (Ex.new hp)) (ps.grow (Ex.new hp) g) upd_same (back (ex_tr e e2) hp))⟩
theorem em_i0 {f : Int → Int → V} {i j : Int} (ha : EvM ta σ H fun v _ => v = .int i) (hb : EvM tb σ H fun v _ => v = .int j) (h : ∀ H', Ex H H' → P (f i j) H') : EvM (tOp (rI0 f) ta tb) σ H P := fun H1 e Q q =>
  ha H1 e _ fun v H2 e2 ev => hb H2 (ex_tr e e2) _ fun u H3 e3 eu => ⟨i, j, ev, eu, q _ H3 (ex_tr e2 e3) (h H3 (ex_tr (ex_tr e e2) e3))⟩
theorem em_i {C : Int → Int → Prop} {f : Int → Int → V} {i j : Int} (hc : C i j) (ha : EvM ta σ H fun v _ => v = .int i) (hb : EvM tb σ H fun v _ => v = .int j) (h : ∀ H', Ex H H' → P (f i j) H') : EvM (tOp (rI C f) ta tb) σ H P := fun H1 e Q q =>
  ha H1 e _ fun v H2 e2 ev => hb H2 (ex_tr e e2) _ fun u H3 e3 eu => ⟨i, j, ev, eu, hc, q _ H3 (ex_tr e2 e3) (h H3 (ex_tr (ex_tr e e2) e3))⟩
theorem em_ci {i : Int} : EvM (c i) σ H fun v _ => v = .int i := em_c fun _ _ => rfl

/-- a list whose items are as told -/
def PL (Ps : List VP) : VP := fun v H => ∃ p xs, v = .ref p ∧ H p = some (.lst xs) ∧ AllP H Ps xs
theorem grows_PL (g : GrowsAll Ps) : Grows (PL Ps) := fun v H H' e ⟨p, xs, ev, hp, ha⟩ => ⟨p, xs, ev, e p _ hp, ha.grow e g⟩
theorem em_PL (g : GrowsAll Ps) (h : EvMs tr σ H Ps) (hl : Ps.length ≤ 1000) : EvM (tLst tr) σ H (PL Ps) := em_lst g h hl fun p vs H' _ a hp _ => ⟨p, vs, rfl, hp, a⟩
theorem em_cat (g : GrowsAll Ps) (g' : GrowsAll Qs) (ha : EvM ta σ H (PL Ps)) (hb : EvM tb σ H (PL Qs)) (hl : Ps.length + Qs.length ≤ 1000) : EvM (tOp rCat ta tb) σ H (PL (Ps ++ Qs)) := fun H1 e Q q =>
  ha H1 e _ fun v H2 e2 ⟨p, xs, ev, hp, hx⟩ => hb H2 (ex_tr e e2) _ fun u H3 e3 ⟨r, ys, eu, hr, hy⟩ =>
    ⟨p, r, xs, ys, ev, eu, e3 p _ hp, hr, by rw [hx.len, hy.len]; exact Nat.le_trans hl (by decide), fun z hz => by
      have n := Ex.new (o := .lst (xs ++ ys)) hz
      exact q _ _ (ex_tr (ex_tr e2 e3) n) ⟨z, _, rfl, upd_same, ((hx.grow e3 g).app hy).grow n (g.app g')⟩⟩
end

/-! ### data -/
section
variable {K : PySem.W.Frag} {H H' : Hp}
mutual
theorem dp_grow (e : Ex H H') : ∀ (d : PyData) (v : V), Dp K H v d → Dp K H' v d
  | .none, _, h => by cases h; exact .non
  | .bool b, _, h => by cases h; exact .bl b
  | .int i, _, h => by cases h; exact .int i
  | .str x, _, h => by cases h; exact .str x
  | .list ds, _, h => by
    cases h with
    | lst hs ha => exact .lst (Evl.ex_l e hs) (dpAll_grow e ds _ ha)
  | .tuple ds, _, h => by
    cases h with
    | tup hs ha => exact .tup (Evl.ex_t e hs) (dpAll_grow e ds _ ha)
  | .dict _, _, h => by cases h
theorem dpAll_grow (e : Ex H H') : ∀ (ds : List PyData) (vs : List V), DpAll K H vs ds → DpAll K H' vs ds
  | [], _, h => by cases h; exact .nil
  | d :: ds, _, h => by
    cases h with
    | cons h1 h2 => exact .cons (dp_grow e d _ h1) (dpAll_grow e ds _ h2)
end
theorem dat_grow (e : Ex H H') {v : V} {d : PyData} (h : Dat K H v d) : Dat K H' v d := by
  cases h with
  | dp h => exact .dp (dp_grow e d v h)
  | dk h => exact .dk (e _ _ h)
/-- data that isn't the object at t -/
def PD (K : PySem.W.Frag) (t : Addr) (d : PyData) : VP := fun v H => Dat K H v d ∧ v ≠ .ref t
/-- data without a dict -/
def PP (K : PySem.W.Frag) (d : PyData) : VP := fun v H => Dp K H v d
theorem grows_PD {t : Addr} {d : PyData} : Grows (PD K t d) := fun _ _ _ e h => ⟨dat_grow e h.1, h.2⟩
theorem grows_PP {d : PyData} : Grows (PP K d) := fun v _ _ e h => dp_grow e d v h
theorem allP_dpAll : ∀ {ds : List PyData} {vs : List V}, AllP H (ds.map (PP K)) vs → DpAll K H vs ds
  | [], _, h => by cases h; exact .nil
  | d :: ds, _, h => by
    cases h with
    | cons h1 h2 => exact .cons h1 (allP_dpAll h2)
variable {σ : L2.St} {t : Addr} {kv : HO}
theorem em_PPint {i : Int} : EvM (c i) σ H (PP K (.int i)) := em_c fun _ _ => .int i
theorem em_PPstr {x : Str} : EvM (s x) σ H (PP K (.str x)) := em_c fun _ _ => .str x
theorem em_PPbl {b : Bool} : EvM (tC (.bl b)) σ H (PP K (.bool b)) := em_c fun _ _ => .bl b
theorem em_PPnon : EvM (tC .non) σ H (PP K .none) := em_c fun _ _ => .non
theorem em_PPtup {ta : TA} {ds : List PyData} (h : EvMs ta σ H (ds.map (PP K))) (hl : ds.length ≤ 1000) : EvM (tTup ta) σ H (PP K (.tuple ds)) :=
  em_tup (GrowsAll.map (fun _ => grows_PP) ds) h (by rw [List.length_map]; exact hl) fun p vs H' _ a hp _ => .tup (Evl.st_of hp) (allP_dpAll a)
theorem em_PPlst {ta : TA} {ds : List PyData} (h : EvMs ta σ H (ds.map (PP K))) (hl : ds.length ≤ 1000) : EvM (tLst ta) σ H (PP K (.list ds)) :=
  em_lst (GrowsAll.map (fun _ => grows_PP) ds) h (by rw [List.length_map]; exact hl) fun p vs H' _ a hp _ => .lst (Evl.sq_of hp) (allP_dpAll a)
theorem em_PPi0 {f : Int → Int → Int} {ta tb : TE} {i j : Int} (ha : EvM ta σ H fun v _ => v = .int i) (hb : EvM tb σ H fun v _ => v = .int j) : EvM (tOp (rI0 fun i j => .int (f i j)) ta tb) σ H (PP K (.int (f i j))) :=
  em_i0 ha hb fun _ _ => .int _
theorem em_PDc {v : V} {d : PyData} (h : Dp K H v d) (hv : ∀ a, v ≠ .ref a) : EvM (tC v) σ H (PD K t d) := em_c fun H' e => ⟨.dp (dp_grow e d v h), hv t⟩
theorem em_PDi0 {f : Int → Int → Int} {ta tb : TE} {i j : Int} (ha : EvM ta σ H fun v _ => v = .int i) (hb : EvM tb σ H fun v _ => v = .int j) : EvM (tOp (rI0 fun i j => .int (f i j)) ta tb) σ H (PD K t (.int (f i j))) :=
  em_i0 ha hb fun _ _ => ⟨.dp (.int _), fun z => nomatch z⟩
theorem em_PDi {C : Int → Int → Prop} {f : Int → Int → Int} {ta tb : TE} {i j : Int} (hc : C i j) (ha : EvM ta σ H fun v _ => v = .int i) (hb : EvM tb σ H fun v _ => v = .int j) : EvM (tOp (rI C fun i j => .int (f i j)) ta tb) σ H (PD K t (.int (f i j))) :=
  em_i hc ha hb fun _ _ => ⟨.dp (.int _), fun z => nomatch z⟩
theorem ne_new {p : Addr} (ht : H t ≠ none) (hp : H p = none) : V.ref p ≠ V.ref t := fun z => ht (by cases z; exact hp)
theorem em_PDtup {ta : TA} {ds : List PyData} (ht : H t ≠ none) (h : EvMs ta σ H (ds.map (PP K))) (hl : ds.length ≤ 1000) : EvM (tTup ta) σ H (PD K t (.tuple ds)) :=
  em_tup (GrowsAll.map (fun _ => grows_PP) ds) h (by rw [List.length_map]; exact hl) fun p vs H' _ a hp hn => ⟨.dp (.tup (Evl.st_of hp) (allP_dpAll a)), ne_new ht hn⟩
theorem em_PDlst {ta : TA} {ds : List PyData} (ht : H t ≠ none) (h : EvMs ta σ H (ds.map (PP K))) (hl : ds.length ≤ 1000) : EvM (tLst ta) σ H (PD K t (.list ds)) :=
  em_lst (GrowsAll.map (fun _ => grows_PP) ds) h (by rw [List.length_map]; exact hl) fun p vs H' _ a hp hn => ⟨.dp (.lst (Evl.sq_of hp) (allP_dpAll a)), ne_new ht hn⟩
theorem em_PDnil (ht : H t ≠ none) : EvM tDNewK σ H (PD K t (.dict [])) := fun H1 e Q q p hp => q _ _ (Ex.new hp) ⟨.dk (kvs := []) upd_same, ne_new ht (back e hp)⟩
theorem em_PDone {k : Key} {i : Int} (ht : H t ≠ none) : EvM (tDisp [(tC (kV k), c i)]) σ H (PD K t (.dict [(keyD k, .int i)])) := fun H1 e Q q p hp =>
  ⟨upd_same, [(k, .int i)], rfl, (by show 1 ≤ 15; decide), by
    rw [upd_upd]
    exact q _ _ (Ex.new hp) ⟨.dk (kvs := [(k, i)]) upd_same, ne_new ht (back e hp)⟩⟩
/-- another thing at t leaves all data but it as they are -/
theorem sql_upd {a : Addr} {xs : List V} {kvs : List (Key × V)} {o : HO} (ht : H t = some (.dK kvs)) (h : SqL K H a xs) : SqL K (upd H t o) a xs := by
  rcases h with (h | ⟨u, h⟩) | h
  · exact .inl (.inl (by rw [upd_ne (ne_of h ht (by intro z; cases z))]; exact h))
  · exact .inl (.inr ⟨u, by rw [upd_ne (ne_of h ht (by intro z; cases z))]; exact h⟩)
  · exact .inr h
theorem sqt_upd {a : Addr} {xs : List V} {kvs : List (Key × V)} {o : HO} (ht : H t = some (.dK kvs)) (h : SqT K H a xs) : SqT K (upd H t o) a xs := by
  rcases h with (h | ⟨u, h⟩) | h
  · exact .inl (.inl (by rw [upd_ne (ne_of h ht (by intro z; cases z))]; exact h))
  · exact .inl (.inr ⟨u, by rw [upd_ne (ne_of h ht (by intro z; cases z))]; exact h⟩)
  · exact .inr h
mutual
theorem dp_upd {kvs : List (Key × V)} {o : HO} (ht : H t = some (.dK kvs)) : ∀ (d : PyData) (v : V), Dp K H v d → Dp K (upd H t o) v d
  | .none, _, h => by cases h; exact .non
  | .bool b, _, h => by cases h; exact .bl b
  | .int i, _, h => by cases h; exact .int i
  | .str x, _, h => by cases h; exact .str x
  | .list ds, _, h => by
    cases h with
    | lst hs ha => exact .lst (sql_upd ht hs) (dpAll_upd ht ds _ ha)
  | .tuple ds, _, h => by
    cases h with
    | tup hs ha => exact .tup (sqt_upd ht hs) (dpAll_upd ht ds _ ha)
  | .dict _, _, h => by cases h
theorem dpAll_upd {kvs : List (Key × V)} {o : HO} (ht : H t = some (.dK kvs)) : ∀ (ds : List PyData) (vs : List V), DpAll K H vs ds → DpAll K (upd H t o) vs ds
  | [], _, h => by cases h; exact .nil
  | d :: ds, _, h => by
    cases h with
    | cons h1 h2 => exact .cons (dp_upd ht d _ h1) (dpAll_upd ht ds _ h2)
end
theorem pd_upd {kvs : List (Key × V)} {o : HO} (ht : H t = some (.dK kvs)) {v : V} {d : PyData} (h : PD K t d v H) : PD K t d v (upd H t o) := by
  obtain ⟨h, n⟩ := h
  refine ⟨?_, n⟩
  cases h with
  | dp h => exact .dp (dp_upd ht d v h)
  | dk h => exact .dk (by rw [upd_ne (fun z => n (by rw [z]))]; exact h)
end

/-! ### any value -/
def dAny1 : List PyData := [.none, .bool true, .bool false, .int 0, .int 1, .int 2, .int 3, .int 4, .int 9, .int 10, .int (0 - 1), .int (10 ^ (39 : Int).toNat), .str "", .str "a", .str "0", .str "1*", .str "open", .str "none", .str "width 1"]
def dAny2 : List PyData := [.tuple [], .list [], .dict [], .tuple [.int 1], .list [.int 0], .dict [(.str "a", .int 1)], .tuple [.int 0, .int 0], .list [.tuple [.int 0, .int 0]], .tuple [.tuple [.int 0, .int 0]],
  .tuple [.int 0, .int 1], .tuple [.int 1, .bool false], .tuple [.tuple [.int 1, .bool false]], .list [.tuple [.tuple [.int 1, .bool true]]]]
def dAny3 : List PyData := [.tuple [.none], .tuple [.int 0, .bool true], .tuple [.int 0, .int 0, .int 0], .tuple [.str "step"], .tuple [.str "put", .tuple [.int 0, .int 0]], .dict [(.int 0, .int 0)], .list [.none], .tuple [.int 0, .int 1, .int 2], .tuple [.int 9, .bool false], .int 60]
def dAny : List PyData := (dAny1 ++ dAny2) ++ dAny3
abbrev bl (b : Bool) : TE := tC (.bl b)
abbrev non : TE := tC .non
def tas : List TE → TA
  | [] => tNil
  | t :: r => tCons t (tas r)
abbrev tt (l : List TE) : TE := tTup (tas l)
abbrev tl (l : List TE) : TE := tLst (tas l)
def iAny1 : List TE := [non, bl true, bl false, c 0, c 1, c 2, c 3, c 4, c 9, c 10, tOp rSub (c 0) (c 1), tOp rPow (c 10) (c 39), s "", s "a", s "0", s "1*", s "open", s "none", s "width 1"]
def iAny2 : List TE := [tt [], tl [], tDNewK, tt [c 1], tl [c 0], tDisp [(s "a", c 1)], tt [c 0, c 0], tl [tt [c 0, c 0]], tt [tt [c 0, c 0]], tt [c 0, c 1], tt [c 1, bl false], tt [tt [c 1, bl false]], tl [tt [tt [c 1, bl true]]]]
def iAny3 : List TE := [tt [non], tt [c 0, bl true], tt [c 0, c 0, c 0], tt [s "step"], tt [s "put", tt [c 0, c 0]], tDisp [(c 0, c 0)], tl [non], tt [c 0, c 1, c 2], tt [c 9, bl false], c 60]
abbrev NAny : List Str := ["tape", "some"]
def t_any (K : PySem.W.Frag) : TS :=
  tSeq (tAsg (tLst (tas iAny1)) (gName 1))
  (tSeq (tAsg (tOp rCat (tVar 1) (tLst (tas iAny2))) (gName 1))
  (tRet (tCall (spOne K) [] E0 (tCons (tVar 0) (tCons (tOp rCat (tVar 1) (tLst (tas iAny3))) tNil)))))
/-- all but the object at t stands as it stood -/
def ExB (t : Addr) (H H' : Hp) : Prop := ∀ a o, a ≠ t → H a = some o → H' a = some o
def spAny (K : PySem.W.Frag) : Sp := fun vs H Q _ => ∃ t : Addr, vs = [.ref t] ∧ Tape H t ∧ ∀ v d H', d ∈ dAny → Dat K H' v d → Tape H' t → ExB t H H' → Q v H'
end Tp

set_option maxHeartbeats 400000
namespace Tp
open PySem PySem.Spec PyProof.Rows L2
def fitsB (d : PyData) : Bool := d.showable && decide (d.shown.length ≤ 1000) && decide (d.depth ≤ 60) && PyData.strOk d.shown
theorem dAny_fits : dAny.all fitsB = true := by decide +kernel
theorem any_ok {d : PyData} (h : d ∈ dAny) : d.showable = true ∧ d.shown.length ≤ sizeLine ∧ d.depth ≤ 60 ∧ PyData.strOk d.shown = true := by
  have q := List.all_eq_true.mp dAny_fits d h
  unfold fitsB at q
  simp only [Bool.and_eq_true, decide_eq_true_eq] at q
  exact ⟨q.1.1.1, Nat.le_trans q.1.1.2 (by decide), q.1.2, q.2⟩
section
variable {K : PySem.W.Frag} {H : Hp} {σ : L2.St} {t : Addr}
theorem any1 (ht : H t ≠ none) : EvMs (tas iAny1) σ H (dAny1.map (PD K t)) := by
  have nr : ∀ {v : V}, (∀ a, v ≠ .ref a) → ∀ a, v ≠ .ref a := fun h => h
  refine ems_cons grows_PD (em_PDc .non fun _ z => nomatch z) ?_
  refine ems_cons grows_PD (em_PDc (.bl _) fun _ z => nomatch z) ?_
  refine ems_cons grows_PD (em_PDc (.bl _) fun _ z => nomatch z) ?_
  iterate 7 refine ems_cons grows_PD (em_PDc (.int _) fun _ z => nomatch z) ?_
  refine ems_cons grows_PD (em_PDi0 (f := fun i j => i - j) em_ci em_ci) ?_
  refine ems_cons grows_PD (em_PDi (f := fun i j => i ^ j.toNat) ⟨by decide, by decide, by decide⟩ em_ci em_ci) ?_
  iterate 7 refine ems_cons grows_PD (em_PDc (.str _) fun _ z => nomatch z) ?_
  exact ems_nil
theorem pp0 : EvMs (tas []) σ H (([] : List PyData).map (PP K)) := ems_nil
theorem pps {te : TE} {d : PyData} {l : List TE} {ds : List PyData} (h : EvM te σ H (PP K d)) (r : EvMs (tas l) σ H (ds.map (PP K))) : EvMs (tas (te :: l)) σ H ((d :: ds).map (PP K)) := ems_cons grows_PP h r
theorem any2 (ht : H t ≠ none) : EvMs (tas iAny2) σ H (dAny2.map (PD K t)) := by
  refine ems_cons grows_PD (em_PDtup ht pp0 (by decide)) ?_
  refine ems_cons grows_PD (em_PDlst ht pp0 (by decide)) ?_
  refine ems_cons grows_PD (em_PDnil ht) ?_
  refine ems_cons grows_PD (em_PDtup ht (pps em_PPint pp0) (by decide)) ?_
  refine ems_cons grows_PD (em_PDlst ht (pps em_PPint pp0) (by decide)) ?_
  refine ems_cons grows_PD (em_PDone (k := .inr "a") ht) ?_
  refine ems_cons grows_PD (em_PDtup ht (pps em_PPint (pps em_PPint pp0)) (by decide)) ?_
  refine ems_cons grows_PD (em_PDlst ht (pps (em_PPtup (pps em_PPint (pps em_PPint pp0)) (by decide)) pp0) (by decide)) ?_
  refine ems_cons grows_PD (em_PDtup ht (pps (em_PPtup (pps em_PPint (pps em_PPint pp0)) (by decide)) pp0) (by decide)) ?_
  refine ems_cons grows_PD (em_PDtup ht (pps em_PPint (pps em_PPint pp0)) (by decide)) ?_
  refine ems_cons grows_PD (em_PDtup ht (pps em_PPint (pps em_PPbl pp0)) (by decide)) ?_
  refine ems_cons grows_PD (em_PDtup ht (pps (em_PPtup (pps em_PPint (pps em_PPbl pp0)) (by decide)) pp0) (by decide)) ?_
  refine ems_cons grows_PD (em_PDlst ht (pps (em_PPtup (pps (em_PPtup (pps em_PPint (pps em_PPbl pp0)) (by decide)) pp0) (by decide)) pp0) (by decide)) ?_
  exact ems_nil
theorem any3 (ht : H t ≠ none) : EvMs (tas iAny3) σ H (dAny3.map (PD K t)) := by
  refine ems_cons grows_PD (em_PDtup ht (pps em_PPnon pp0) (by decide)) ?_
  refine ems_cons grows_PD (em_PDtup ht (pps em_PPint (pps em_PPbl pp0)) (by decide)) ?_
  refine ems_cons grows_PD (em_PDtup ht (pps em_PPint (pps em_PPint (pps em_PPint pp0))) (by decide)) ?_
  refine ems_cons grows_PD (em_PDtup ht (pps em_PPstr pp0) (by decide)) ?_
  refine ems_cons grows_PD (em_PDtup ht (pps em_PPstr (pps (em_PPtup (pps em_PPint (pps em_PPint pp0)) (by decide)) pp0)) (by decide)) ?_
  refine ems_cons grows_PD (em_PDone (k := .inl 0) ht) ?_
  refine ems_cons grows_PD (em_PDlst ht (pps em_PPnon pp0) (by decide)) ?_
  refine ems_cons grows_PD (em_PDtup ht (pps em_PPint (pps em_PPint (pps em_PPint pp0))) (by decide)) ?_
  refine ems_cons grows_PD (em_PDtup ht (pps em_PPint (pps em_PPbl pp0)) (by decide)) ?_
  refine ems_cons grows_PD (em_PDc (.int _) fun _ z => nomatch z) ?_
  exact ems_nil
theorem q_asg {te : TE} {tz : TS} {D : Ends} {P : VP} {i : Nat} (h : EvM te σ H P) (k : ∀ v H1, Ex H H1 → P v H1 → tz D (σ.set i (some v)) H1) : tSeq (tAsg te (gName i)) tz D σ H := h H (Ex.refl H) _ k
theorem q_ret {te : TE} {D : Ends} {P : VP} (h : EvM te σ H P) (k : ∀ v H1, Ex H H1 → P v H1 → D.rt v H1) : tRet te D σ H := h H (Ex.refl H) _ k
theorem len1 : (dAny1.map (PD K t)).length = 19 := by rw [List.length_map]; rfl
theorem len2 : (dAny2.map (PD K t)).length = 13 := by rw [List.length_map]; rfl
theorem len3 : (dAny3.map (PD K t)).length = 10 := by rw [List.length_map]; rfl
theorem any_call (D : Ends) {v2 : V} (hσ : σ[0]? = some (some (.ref t))) (hσ1 : σ[1]? = some (some v2)) {d0 m0 : Int} (hT : H t = some (.dK (tapeKv d0 m0))) (hR : Rng d0 m0) (p2 : PL (dAny1.map (PD K t) ++ dAny2.map (PD K t)) v2 H)
    (k : ∀ v d H', d ∈ dAny → Dat K H' v d → Tape H' t → ExB t H H' → D.rt v H') :
    tRet (tCall (spOne K) [] E0 (tCons (tVar 0) (tCons (tOp rCat (tVar 1) (tLst (tas iAny3))) tNil))) D σ H := by
  have ht : H t ≠ none := fun z => by rw [hT] at z; cases z
  have g : ∀ ds : List PyData, GrowsAll (ds.map (PD K t)) := GrowsAll.map fun _ => grows_PD
  have h3 := em_cat (σ := σ) (H := H) ((g dAny1).app (g dAny2)) (g dAny3) (em_var (i := 1) (v := v2) hσ1 fun H' e => grows_PL ((g _).app (g _)) _ _ _ e p2) (em_PL (g dAny3) (any3 ht) (by rw [len3]; decide)) (by rw [List.length_append, len1, len2, len3]; decide)
  refine ⟨_, hσ, h3 H (Ex.refl H) _ fun v3 H3 e3 p3 => ?_⟩
  obtain ⟨p, xs, rfl, hp, ha⟩ := p3
  have h3' := e3 t _ hT
  have hl : xs.length = 42 := by rw [ha.len, List.length_append, List.length_append, len1, len2, len3]
  refine ⟨t, p, xs, rfl, ⟨d0, m0, h3', hR⟩, SqL.of hp, ne_of hp h3' (by intro z; cases z), by omega, by rw [hl]; decide, fun i v H' hi dr => ?_⟩
  obtain ⟨P, hP, pv⟩ := ha.get hi
  have hP' : (dAny.map (PD K t))[i]? = some P := by
    rw [← hP]
    simp only [dAny, List.map_append]
  obtain ⟨d', m', rfl, hR'⟩ := dr
  rw [List.getElem?_map] at hP'
  obtain ⟨d, hd, rfl⟩ := Option.map_eq_some_iff.mp hP'
  refine k v d _ (List.mem_of_getElem? hd) (pd_upd h3' pv).1 ⟨d', m', upd_same, hR'⟩ fun a o na ha => ?_
  rw [upd_ne na]
  exact e3 a o ha
theorem pure_any (vs : List V) (H : Hp) (Q : VK) (E : XK) (h : spAny K vs H Q E) : t_any K { nx := fun _ H' => Q .non H', rt := Q } (start NAny vs) H := by
  obtain ⟨t, rfl, ⟨d0, m0, hT, hR⟩, k⟩ := h
  have ht : ∀ {H' : Hp}, Ex H H' → H' t ≠ none := fun e z => by
    rw [e t _ hT] at z
    cases z
  have g : ∀ ds : List PyData, GrowsAll (ds.map (PD K t)) := GrowsAll.map fun _ => grows_PD
  unfold t_any
  refine q_asg (P := PL (dAny1.map (PD K t))) (em_PL (g _) (any1 (ht (Ex.refl H))) (by rw [len1]; decide)) fun v1 H1 e1 p1 => ?_
  refine q_asg (P := PL (dAny1.map (PD K t) ++ dAny2.map (PD K t))) (em_cat (g _) (g _) (em_var (v := v1) rfl fun H' e => grows_PL (g _) _ _ _ e p1) (em_PL (g _) (any2 (ht e1)) (by rw [len2]; decide)) (by rw [len1, len2]; decide)) fun v2 H2 e2 p2 => ?_
  have e02 := ex_tr e1 e2
  refine any_call _ rfl rfl (e02 t _ hT) hR p2 fun v d H' hd hD hT' hE => k v d H' hd hD hT' fun a o na ha => hE a o na (e02 a o ha)
end
end Tp

set_option maxHeartbeats 400000
namespace Tp
open PySem PySem.Spec PyProof.Rows L2
section
variable {K : PySem.W.Frag} {σ : L2.St} {H : Hp} {te tl : TE} {g : TG} {vs : List Nat}
theorem ex_del {H : Hp} {D : Addr} : Ex (delH H D) H := fun a o h => by
  by_cases e : a = D
  · rw [e, delH_same] at h
    cases h
  · rw [delH_ne e] at h
    exact h
theorem ex_del2 {H H' : Hp} {D : Addr} (n : H D = none) (e : Ex H H') : Ex H (delH H' D) := fun a o h => by
  rw [delH_ne (ne_of_none h n)]
  exact e a o h
theorem del_upd {H : Hp} {D : Addr} {o : HO} : delH (upd H D o) D = delH H D := by
  funext b
  by_cases e : b = D
  · rw [e, delH_same, delH_same]
  · rw [delH_ne e, delH_ne e, upd_ne e]
theorem ex_dels {H H' : Hp} {D : Addr} (e : Ex H H') : Ex (delH H D) (delH H' D) := fun a o h => by
  by_cases q : a = D
  · rw [q, delH_same] at h
    cases h
  · rw [delH_ne q] at h ⊢
    exact e a o h
/-- the first items, one by one -/
theorem take_snoc {α : Type} {l : List α} {i : Nat} {x : α} (h : l[i]? = some x) : l.take (i + 1) = l.take i ++ [x] := by
  rw [List.take_add_one, h]
  rfl
/-- a comprehension over a list: each item's value by a word of its own -/
theorem em_lc {Ps Rs : List VP} {PO : VP} (gP : GrowsAll Ps) (gR : GrowsAll Rs) (hl : Rs.length = Ps.length) (hz : Ps.length ≤ 1000) (h : EvM tl σ H (PL Ps))
    (body : ∀ (D : Addr) (i : Nat) (P R : VP) (x : V) (H1 : Hp), H1 D ≠ none → Ex H (delH H1 D) → Ps[i]? = some P → Rs[i]? = some R → P x (delH H1 D) →
      ∃ σ2, (∀ Q : L2.St → Hp → Prop, Q σ2 H1 → g x (wipe σ vs) H1 Q) ∧ wipe σ2 vs = wipe σ vs ∧ EvM te σ2 H1 (fun v H' => R v (delH H' D)))
    (k : ∀ D ys H', H D = none → Ex H (delH H' D) → H' D = some (.lst ys) → AllP (delH H' D) Rs ys → PO (.ref D) H') : EvM (tLc (iList K tl) g tYes te vs) σ H PO := fun H1 e Q q =>
  h H1 e _ fun v H2 e2 ⟨p, xs, ev, hp, ha⟩ => ⟨p, ev, ⟨xs, SqL.of hp⟩, fun D hD => by
    have hlen := ha.len
    have e02 := ex_tr e e2
    refine lc_list (K := K) (a := p) (xs := xs) (fun i H' => ∃ ys, H' D = some (.lst ys) ∧ AllP (delH H' D) (Rs.take i) ys ∧ Ex H2 (delH H' D)) ⟨[], upd_same, by rw [List.take_zero]; exact .nil, fun a o ho => by rw [del_upd, delH_ne (ne_of_none ho hD)]; exact ho⟩
      (fun i H' _ ⟨_, _, _, e3⟩ => SqL.of (ex_del p _ (e3 p _ hp))) ?_ ?_
    · rintro i x H' hi ⟨ys, hy, hall, e3⟩
      have hix : i < xs.length := (List.getElem?_eq_some_iff.mp hi).1
      obtain ⟨P, hP, px⟩ := ha.get hi
      have hiR : i < Rs.length := by omega
      have hR : Rs[i]? = some Rs[i] := List.getElem?_eq_getElem hiR
      have gp : Grows P := gP P (List.mem_of_getElem? hP)
      obtain ⟨σ2, b1, b2, b3⟩ := body D i P Rs[i] x H' (fun z => by rw [hy] at z; cases z) (ex_tr e02 e3) hP hR (gp _ _ _ e3 px)
      refine b1 _ ⟨b2, ?_⟩
      simp only [tYes, ↓reduceIte]
      refine b3 H' (Ex.refl H') _ fun y H4 e4 ry => ⟨ys, e4 D _ hy, ?_, ys ++ [y], upd_same, ?_, ?_⟩
      · have z := hall.len
        rw [List.length_take] at z
        exact Nat.lt_of_le_of_lt (show ys.length ≤ 1000 by omega) (by decide)
      · rw [del_upd, take_snoc hR]
        exact (hall.grow (ex_dels e4) fun P hP => gR P (List.mem_of_mem_take hP)).app (.cons ry .nil)
      · rw [del_upd]
        exact ex_tr e3 (ex_dels e4)
    · rintro H' ⟨ys, hy, hall, e3⟩
      have e1 : xs.length = Rs.length := by omega
      rw [e1, List.take_length] at hall
      exact q _ H' (ex_tr e2 (ex_tr e3 ex_del)) (k D ys H' (back e02 hD) (ex_tr e02 e3) hy hall)⟩
/-- a comprehension over range(a), range(a, b), each item a value that is there without the heap -/
theorem em_lcR {wi : TI} {lo : Int} {n : Nat} {f : Nat → V} {j : Nat} (hn : n ≤ 1000) (hw : ∀ H1, Ex H H1 → ∀ R : It → Hp → Prop, (∀ H2, Ex H1 H2 → R (Itr lo n) H2) → wi σ H1 R)
    (hwp : ∀ x, wipe ((wipe σ vs).set j (some x)) vs = wipe σ vs) (body : ∀ (i : Nat) (H1 : Hp), i < n → EvM te ((wipe σ vs).set j (some (.int (lo + i)))) H1 (fun v _ => v = f i)) :
    EvM (tLc wi (gName j) tYes te vs) σ H (fun v H' => ∃ p, v = .ref p ∧ H' p = some (.lst ((List.range n).map f))) := fun H1 e Q q =>
  hw H1 e _ fun H2 e2 D hD => by
    refine lc_range (lo := lo) (n := n) (fun i H' => H' D = some (.lst ((List.range i).map f)) ∧ Ex H2 (delH H' D)) ⟨upd_same, fun a o ho => by rw [del_upd, delH_ne (ne_of_none ho hD)]; exact ho⟩ ?_ ?_
    · rintro i H' hi ⟨hy, e3⟩
      refine ⟨hwp _, ?_⟩
      simp only [tYes, ↓reduceIte]
      refine body i H' hi H' (Ex.refl H') _ fun y H4 e4 ey => ⟨_, e4 D _ hy, ?_, ?_, ?_⟩
      · rw [List.length_map, List.length_range]
        exact Nat.lt_of_lt_of_le (Nat.lt_of_lt_of_le hi hn) (by decide)
      · rw [upd_same, ey, List.range_succ, List.map_append]
        rfl
      · rw [del_upd]
        exact ex_tr e3 (ex_dels e4)
    · rintro H' ⟨hy, e3⟩
      exact q _ H' (ex_tr e2 (ex_tr e3 ex_del)) ⟨D, rfl, hy⟩
/-- C(e) -/
theorem em_err {C : Addr} {f : Str} {v : V} {P : VP} (he : EvM te σ H (fun u _ => u = v)) (k : ∀ a H', Ex H H' → ErrF H' a C f v → P (.ref a) H') : EvM (tErr C f (tCons te tNil)) σ H P := fun H1 e Q q =>
  he H1 e _ fun u H2 e2 eu => ⟨v, by rw [eu], fun a dx na nd ne => by
    have x1 : Ex H2 (upd (upd H2 dx (exd dx [(f, v)])) a (exo a C (some dx))) := ex_tr (Ex.new nd) (Ex.new (by rw [upd_ne (Ne.symm ne)]; exact na))
    refine q _ _ (ex_tr e2 x1) (k a _ (ex_tr (ex_tr e e2) x1) ⟨dx, upd_same, ?_⟩)
    rw [upd_ne ne]
    exact upd_same⟩
theorem em_err0 {C : Addr} {P : VP} (k : ∀ a H', Ex H H' → H' a = some (ExO (.ref C) a) → P (.ref a) H') : EvM (tErr0 C) σ H P := fun H1 e Q q a na =>
  q _ _ (Ex.new na) (k a _ (ex_tr e (Ex.new na)) upd_same)
theorem errF_grow {H H' : Hp} {a C : Addr} {f : Str} {v : V} (e : Ex H H') (h : ErrF H a C f v) : ErrF H' a C f v := by
  obtain ⟨dx, h1, h2⟩ := h
  exact ⟨dx, e _ _ h1, e _ _ h2⟩
theorem errAt_grow {H H' : Hp} {a C : Addr} (e : Ex H H') (h : ErrAt H a C) : ErrAt H' a C := by
  rcases h with ⟨f, v, h⟩ | h
  · exact .inl ⟨f, v, errF_grow e h⟩
  · exact .inr (e _ _ h)
/-- error.f -/
theorem em_xfld {a C : Addr} {f : Str} {v : V} {P : VP} (T : XIs K C) (no : PySem.W.findIn K (.ref C) f = some none) (he : EvM te σ H (fun u _ => u = .ref a)) (h : ErrF H a C f v) (k : ∀ H', Ex H H' → P v H') : EvM (tXfld K f te) σ H P := fun H1 e Q q =>
  he H1 e _ fun u H2 e2 eu => ⟨a, C, v, eu, T, no, errF_grow (ex_tr e e2) h, q _ H2 e2 (k H2 (ex_tr e e2))⟩
/-- isinstance(error, class) -/
theorem em_isx {ta tb : TE} {a C : Addr} {cv : V} {u : Value} {b : Bool} {P : VP} (T : XIs K C) (h : ErrAt H a C) (kc : ClsV cv u) (ks : PySem.W.kitOne K (.ref C) u = some b) (ha : EvM ta σ H (fun v _ => v = .ref a)) (hb : EvM tb σ H (fun v _ => v = cv))
    (k : ∀ H', Ex H H' → P (.bl b) H') : EvM (tCB (rIsX K) (tCons ta (tCons tb tNil))) σ H P := fun H1 e Q q =>
  ha H1 e _ fun v1 H2 e2 ev => hb H2 (ex_tr e e2) _ fun v2 H3 e3 ev2 => ⟨a, C, cv, u, b, by rw [ev, ev2], T, errAt_grow (ex_tr (ex_tr e e2) e3) h, kc, ks, q _ H3 (ex_tr e2 e3) (k H3 (ex_tr (ex_tr e e2) e3))⟩
end
end Tp

set_option maxHeartbeats 400000
/-! Readings that only add to the heap, but for tapes, which may turn into other tapes. -/
namespace G
open PySem PySem.Spec PyProof.Rows L2 Tp
/-- a tape -/
def IsT (o : HO) : Prop := ∃ d m, o = .dK (tapeKv d m) ∧ Rng d m
def Gr (H H' : Hp) : Prop := ∀ a o, H a = some o → H' a = some o ∨ (IsT o ∧ ∃ o', H' a = some o' ∧ IsT o')
theorem Gr.refl (H : Hp) : Gr H H := fun _ _ h => .inl h
theorem Gr.trans {H H1 H2 : Hp} (e : Gr H H1) (f : Gr H1 H2) : Gr H H2 := fun a o h => by
  rcases e a o h with h | ⟨t, o', h, t'⟩
  · exact f a o h
  · rcases f a o' h with h | ⟨_, o'', h, t''⟩
    · exact .inr ⟨t, o', h, t'⟩
    · exact .inr ⟨t, o'', h, t''⟩
theorem Gr.new {H : Hp} {p : Addr} {o : HO} (h : H p = none) : Gr H (upd H p o) := fun a u e => .inl (by rw [upd_ne (ne_of_none e h)]; exact e)
theorem Gr.tape {H : Hp} {t : Addr} {d m d' m' : Int} (h : H t = some (.dK (tapeKv d m))) (r : Rng d m) (r' : Rng d' m') : Gr H (upd H t (.dK (tapeKv d' m'))) := fun a o e => by
  by_cases q : a = t
  · subst q
    rw [h] at e
    cases e
    exact .inr ⟨⟨d, m, rfl, r⟩, _, upd_same, d', m', rfl, r'⟩
  · exact .inl (by rw [upd_ne q]; exact e)
theorem Gr.drawn {H H' : Hp} {t : Addr} (h : Tape H t) (dr : Drawn H t H') : Gr H H' := by
  obtain ⟨d, m, h1, r⟩ := h
  obtain ⟨d', m', rfl, r'⟩ := dr
  exact Gr.tape h1 r r'
theorem Gr.at {H H' : Hp} {a : Addr} {o : HO} (e : Gr H H') (h : H a = some o) (n : ¬ IsT o) : H' a = some o := (e a o h).elim id fun z => (n z.1).elim
theorem Gr.lst {H H' : Hp} {a : Addr} {xs : List V} (e : Gr H H') (h : H a = some (.lst xs)) : H' a = some (.lst xs) := e.at h fun ⟨_, _, z, _⟩ => by cases z
theorem Gr.tup {H H' : Hp} {a : Addr} {xs : List V} (e : Gr H H') (h : H a = some (.tup xs)) : H' a = some (.tup xs) := e.at h fun ⟨_, _, z, _⟩ => by cases z
theorem Gr.ins {H H' : Hp} {a C dx : Addr} {fs : List (Str × V)} (e : Gr H H') (h : H a = some (.ins C dx fs)) : H' a = some (.ins C dx fs) := e.at h fun ⟨_, _, z, _⟩ => by cases z
theorem Gr.frz {H H' : Hp} {a : Addr} {o : Obj} {u : HO} (e : Gr H H') (h : H a = some (.frz o u)) : H' a = some (.frz o u) := e.at h fun ⟨_, _, z, _⟩ => by cases z
theorem Gr.tape_at {H H' : Hp} {t : Addr} (e : Gr H H') (h : Tape H t) : Tape H' t := by
  obtain ⟨d, m, h1, r⟩ := h
  rcases e t _ h1 with q | ⟨_, o', q, d', m', rfl, r'⟩
  · exact ⟨d, m, q, r⟩
  · exact ⟨d', m', q, r'⟩
theorem Gr.back {H H' : Hp} {p : Addr} (e : Gr H H') (h : H' p = none) : H p = none := by
  cases q : H p with
  | none => rfl
  | some o =>
    rcases e p o q with z | ⟨_, _, z, _⟩
    · rw [h] at z
      cases z
    · rw [h] at z
      cases z
/-- a list of ours written -/
theorem Gr.write {H H' : Hp} {p : Addr} {o : HO} (e : Gr H H') (h : H p = none) : Gr H (upd H' p o) := fun a u q => by
  rw [upd_ne (ne_of_none q h)]
  exact e a u q
theorem Gr.sql {K : PySem.W.Frag} {H H' : Hp} {a : Addr} {xs : List V} (e : Gr H H') (h : SqL K H a xs) : SqL K H' a xs := by
  rcases h with (h | ⟨o, h⟩) | h
  · exact .inl (.inl (e.lst h))
  · exact .inl (.inr ⟨o, e.frz h⟩)
  · exact .inr h
theorem Gr.sqt {K : PySem.W.Frag} {H H' : Hp} {a : Addr} {xs : List V} (e : Gr H H') (h : SqT K H a xs) : SqT K H' a xs := by
  rcases h with (h | ⟨o, h⟩) | h
  · exact .inl (.inl (e.tup h))
  · exact .inl (.inr ⟨o, e.frz h⟩)
  · exact .inr h
section
variable {K : PySem.W.Frag} {H H' : Hp}
mutual
theorem dp_gr (e : Gr H H') : ∀ (d : PyData) (v : V), Dp K H v d → Dp K H' v d
  | .none, _, h => by cases h; exact .non
  | .bool b, _, h => by cases h; exact .bl b
  | .int i, _, h => by cases h; exact .int i
  | .str x, _, h => by cases h; exact .str x
  | .list ds, _, h => by
    cases h with
    | lst hs ha => exact .lst (e.sql hs) (dpAll_gr e ds _ ha)
  | .tuple ds, _, h => by
    cases h with
    | tup hs ha => exact .tup (e.sqt hs) (dpAll_gr e ds _ ha)
  | .dict _, _, h => by cases h
theorem dpAll_gr (e : Gr H H') : ∀ (ds : List PyData) (vs : List V), DpAll K H vs ds → DpAll K H' vs ds
  | [], _, h => by cases h; exact .nil
  | d :: ds, _, h => by
    cases h with
    | cons h1 h2 => exact .cons (dp_gr e d _ h1) (dpAll_gr e ds _ h2)
end
end
/-! the heap without the object at D -/
abbrev Vw := Option Addr
def vw (D : Vw) (H : Hp) : Hp := match D with
  | none => H
  | some a => delH H a
theorem gr_of_ex {H H' : Hp} (e : ∀ a o, H a = some o → H' a = some o) : Gr H H' := fun a o h => .inl (e a o h)
theorem gr_del {H : Hp} {D : Addr} : Gr (delH H D) H := gr_of_ex ex_del
theorem gr_del2 {H H' : Hp} {D : Addr} (n : H D = none) (e : Gr H H') : Gr H (delH H' D) := fun a o h => by
  rw [delH_ne (ne_of_none h n)]
  exact e a o h
theorem gr_dels {H H' : Hp} {D : Addr} (e : Gr H H') : Gr (delH H D) (delH H' D) := fun a o h => by
  by_cases q : a = D
  · rw [q, delH_same] at h
    cases h
  · rw [delH_ne q] at h ⊢
    exact e a o h
theorem gr_vw {H H' : Hp} (D : Vw) (e : Gr H H') : Gr (vw D H) (vw D H') := match D with
  | none => e
  | some _ => gr_dels e
theorem gr_vw1 {H : Hp} (D : Vw) : Gr (vw D H) H := match D with
  | none => Gr.refl H
  | some _ => gr_del
theorem vw_at {H : Hp} {p : Addr} {o : HO} (D : Vw) (hD : ∀ x ∈ D, x ≠ p) (h : H p = some o) : vw D H p = some o := match D, hD with
  | none, _ => h
  | some a, hD => by
    show delH H a p = some o
    rw [delH_ne (fun z => hD a rfl z.symm)]
    exact h
/-- D stands in H -/
def On (D : Vw) (H : Hp) : Prop := ∀ x ∈ D, H x ≠ none
theorem On.none {H : Hp} : On .none H := fun _ h => nomatch h
theorem On.some {H : Hp} {a : Addr} (h : H a ≠ .none) : On (.some a) H := fun x e => by
  cases e
  exact h
theorem On.new {D : Vw} {H : Hp} {p : Addr} (h : On D H) (hp : H p = .none) : ∀ x ∈ D, x ≠ p := fun x hx z => h x hx (by rw [z]; exact hp)
theorem On.grow {D : Vw} {H H' : Hp} (h : On D H) (e : Gr H H') : On D H' := fun x hx z => h x hx (e.back z)
abbrev VP := V → Hp → Prop
def Grows (P : VP) : Prop := ∀ v H H', Gr H H' → P v H → P v H'
def EvM (te : TE) (σ : L2.St) (H : Hp) (P : VP) : Prop := ∀ H1, Gr H H1 → ∀ Q : VK, (∀ v H2, Gr H1 H2 → P v H2 → Q v H2) → te σ H1 Q
def EvT (tt : TT) (σ : L2.St) (H : Hp) (P : Bool → Prop) : Prop := ∀ H1, Gr H H1 → ∀ Q : Bool → Hp → Prop, (∀ b H2, Gr H1 H2 → P b → Q b H2) → tt σ H1 Q
inductive AllP (H : Hp) : List VP → List V → Prop
  | nil : AllP H [] []
  | cons {P : VP} {Ps : List VP} {v : V} {vs : List V} : P v H → AllP H Ps vs → AllP H (P :: Ps) (v :: vs)
def GrowsAll (Ps : List VP) : Prop := ∀ P ∈ Ps, Grows P
def EvMs (ta : TA) (σ : L2.St) (H : Hp) (Ps : List VP) : Prop := ∀ H1, Gr H H1 → ∀ Q : List V → Hp → Prop, (∀ vs H2, Gr H1 H2 → AllP H2 Ps vs → Q vs H2) → ta σ H1 Q
theorem AllP.grow {H H' : Hp} (e : Gr H H') : ∀ {Ps : List VP} {vs : List V}, GrowsAll Ps → AllP H Ps vs → AllP H' Ps vs
  | _, _, _, .nil => .nil
  | _, _, g, .cons h t => .cons (g _ List.mem_cons_self _ _ _ e h) (AllP.grow e (fun P hP => g P (List.mem_cons_of_mem _ hP)) t)
theorem AllP.len {H : Hp} : ∀ {Ps : List VP} {vs : List V}, AllP H Ps vs → vs.length = Ps.length
  | _, _, .nil => rfl
  | _, _, .cons _ t => congrArg Nat.succ (AllP.len t)
theorem GrowsAll.nil : GrowsAll [] := fun _ h => nomatch h
theorem GrowsAll.cons {P : VP} {Ps : List VP} (a : Grows P) (b : GrowsAll Ps) : GrowsAll (P :: Ps) := fun Q h => by
  rcases List.mem_cons.mp h with rfl | h
  · exact a
  · exact b Q h
theorem GrowsAll.map {α : Type} {f : α → VP} (h : ∀ a, Grows (f a)) (l : List α) : GrowsAll (l.map f) := fun P hP => by
  obtain ⟨a, _, rfl⟩ := List.mem_map.mp hP
  exact h a
theorem grows_eq {x : V} : Grows (fun v _ => v = x) := fun _ _ _ _ h => h
/-- v stands for the data d, in the heap without D -/
def PP (K : PySem.W.Frag) (D : Vw) (d : PyData) : VP := fun v H => Dp K (vw D H) v d
theorem grows_PP {K : PySem.W.Frag} {D : Vw} {d : PyData} : Grows (PP K D d) := fun v _ _ e h => dp_gr (gr_vw D e) d v h
theorem allP_dp {K : PySem.W.Frag} {H : Hp} {D : Vw} : ∀ {ds : List PyData} {vs : List V}, AllP H (ds.map (PP K D)) vs → DpAll K (vw D H) vs ds
  | [], _, h => by cases h; exact .nil
  | d :: ds, _, h => by
    cases h with
    | cons h1 h2 => exact .cons h1 (allP_dp h2)
theorem dpAll_get {K : PySem.W.Frag} {H : Hp} : ∀ {ds : List PyData} {vs : List V} {i : Nat} {v : V}, DpAll K H vs ds → vs[i]? = some v → ∃ d, ds[i]? = some d ∧ Dp K H v d
  | _, _, _, _, .nil, e => by simp at e
  | _, _, 0, _, .cons h _, e => by
    simp at e
    subst e
    exact ⟨_, rfl, h⟩
  | _, _, i + 1, v, .cons _ t, e => by
    obtain ⟨P, h1, h2⟩ := dpAll_get (i := i) (v := v) t (by simpa using e)
    exact ⟨P, by simpa using h1, h2⟩
theorem dpAll_of {K : PySem.W.Frag} {H : Hp} : ∀ {ds : List PyData} {vs : List V} {i : Nat} {d : PyData}, DpAll K H vs ds → ds[i]? = some d → ∃ v, vs[i]? = some v ∧ Dp K H v d
  | _, _, _, _, .nil, e => by simp at e
  | _, _, 0, _, .cons h _, e => by
    simp at e
    subst e
    exact ⟨_, rfl, h⟩
  | _, _, i + 1, v, .cons _ t, e => by
    obtain ⟨P, h1, h2⟩ := dpAll_of (i := i) (d := v) t (by simpa using e)
    exact ⟨P, by simpa using h1, h2⟩
theorem dpAll_len {K : PySem.W.Frag} {H : Hp} : ∀ {ds : List PyData} {vs : List V}, DpAll K H vs ds → vs.length = ds.length
  | _, _, .nil => rfl
  | _, _, .cons _ t => congrArg Nat.succ (dpAll_len t)
theorem dpAll_app {K : PySem.W.Frag} {H : Hp} : ∀ {ds es : List PyData} {vs us : List V}, DpAll K H vs ds → DpAll K H us es → DpAll K H (vs ++ us) (ds ++ es)
  | _, _, _, _, .nil, b => b
  | _, _, _, _, .cons h t, b => .cons h (dpAll_app t b)
theorem dpAll_erase {K : PySem.W.Frag} {H : Hp} : ∀ {ds : List PyData} {vs : List V} (i : Nat), DpAll K H vs ds → DpAll K H (vs.eraseIdx i) (ds.eraseIdx i)
  | _, _, _, .nil => by simpa using DpAll.nil
  | _, _, 0, .cons _ t => t
  | _, _, i + 1, .cons h t => .cons h (dpAll_erase i t)
section
variable {K : PySem.W.Frag} {σ : L2.St} {H : Hp} {D : Vw} {P P' : VP} {Ps Qs : List VP} {te ta tb : TE} {tr : TA} {v : V} {t u : TT}
theorem em_c (h : ∀ H', Gr H H' → P v H') : EvM (tC v) σ H P := fun H1 e Q q => q v H1 (Gr.refl H1) (h H1 e)
theorem em_var {i : Nat} (hi : σ[i]? = some (some v)) (h : ∀ H', Gr H H' → P v H') : EvM (tVar i) σ H P := fun H1 e Q q => ⟨v, hi, q v H1 (Gr.refl H1) (h H1 e)⟩
theorem em_v {i : Nat} (hi : σ[i]? = some (some v)) : EvM (tVar i) σ H (fun u _ => u = v) := em_var hi fun _ _ => rfl
theorem em_vP {i : Nat} (g : Grows P) (hi : σ[i]? = some (some v)) (h : P v H) : EvM (tVar i) σ H P := em_var hi fun _ e => g _ _ _ e h
theorem em_imp (h : EvM te σ H P) (k : ∀ v H', Gr H H' → P v H' → P' v H') : EvM te σ H P' := fun H1 e Q q => h H1 e Q fun v H2 e2 p => q v H2 e2 (k v H2 (e.trans e2) p)
theorem em_mono {H' : Hp} (h : EvM te σ H P) (e : Gr H H') : EvM te σ H' P := fun H1 e1 Q q => h H1 (e.trans e1) Q q
theorem et_mono {H' : Hp} {B : Bool → Prop} (h : EvT t σ H B) (e : Gr H H') : EvT t σ H' B := fun H1 e1 Q q => h H1 (e.trans e1) Q q
theorem ems_nil : EvMs tNil σ H [] := fun H1 _ Q q => q [] H1 (Gr.refl H1) .nil
theorem ems_cons (g : Grows P) (h : EvM te σ H P) (t : EvMs tr σ H Ps) : EvMs (tCons te tr) σ H (P :: Ps) := fun H1 e Q q =>
  h H1 e _ fun v H2 e2 p => t H2 (e.trans e2) _ fun vs H3 e3 ps => q (v :: vs) H3 (e2.trans e3) (.cons (g _ _ _ e3 p) ps)
theorem em_tup (g : GrowsAll Ps) (h : EvMs tr σ H Ps) (hl : Ps.length ≤ 1000) (k : ∀ p vs H', Gr H H' → AllP H' Ps vs → H' p = some (.tup vs) → H p = none → P (.ref p) H') : EvM (tTup tr) σ H P := fun H1 e Q q =>
  h H1 e _ fun vs H2 e2 ps => ⟨by rw [ps.len]; exact Nat.le_trans hl (by decide), fun p hp => q _ _ (e2.trans (Gr.new hp)) (k p vs _ ((e.trans e2).trans (Gr.new hp)) (ps.grow (Gr.new hp) g) upd_same ((e.trans e2).back hp))⟩
theorem em_lst (g : GrowsAll Ps) (h : EvMs tr σ H Ps) (hl : Ps.length ≤ 1000) (k : ∀ p vs H2, Gr H H2 → AllP H2 Ps vs → H2 p = none → P (.ref p) (upd H2 p (.lst vs))) : EvM (tLst tr) σ H P := fun H1 e Q q =>
  h H1 e _ fun vs H2 e2 ps => ⟨by rw [ps.len]; exact Nat.le_trans hl (by decide), fun p hp => q _ _ (e2.trans (Gr.new hp)) (k p vs _ (e.trans e2) ps hp)⟩
theorem em_i0 {f : Int → Int → V} {i j : Int} (ha : EvM ta σ H fun v _ => v = .int i) (hb : EvM tb σ H fun v _ => v = .int j) : EvM (tOp (rI0 f) ta tb) σ H (fun v _ => v = f i j) := fun H1 e Q q =>
  ha H1 e _ fun v H2 e2 ev => hb H2 (e.trans e2) _ fun u H3 e3 eu => ⟨i, j, ev, eu, q _ H3 (e2.trans e3) rfl⟩
theorem em_i {C : Int → Int → Prop} {f : Int → Int → V} {i j : Int} (hc : C i j) (ha : EvM ta σ H fun v _ => v = .int i) (hb : EvM tb σ H fun v _ => v = .int j) : EvM (tOp (rI C f) ta tb) σ H (fun v _ => v = f i j) := fun H1 e Q q =>
  ha H1 e _ fun v H2 e2 ev => hb H2 (e.trans e2) _ fun u H3 e3 eu => ⟨i, j, ev, eu, hc, q _ H3 (e2.trans e3) rfl⟩
theorem em_ci {i : Int} : EvM (c i) σ H fun v _ => v = .int i := em_c fun _ _ => rfl
theorem em_PPc {d : PyData} (h : ∀ H', Dp K H' v d) : EvM (tC v) σ H (PP K D d) := em_c fun H' _ => h _
theorem em_PPi {i : Int} : EvM (c i) σ H (PP K D (.int i)) := em_c fun _ _ => .int i
theorem em_PPtup {ta : TA} {ds : List PyData} (hD : On D H) (h : EvMs ta σ H (ds.map (PP K D))) (hl : ds.length ≤ 1000) : EvM (tTup ta) σ H (PP K D (.tuple ds)) :=
  em_tup (GrowsAll.map (fun _ => grows_PP) ds) h (by rw [List.length_map]; exact hl) fun p vs H' _ a hp hn => .tup (Evl.st_of (vw_at D (hD.new hn) hp)) (allP_dp a)
theorem pp0 : EvMs tNil σ H (([] : List PyData).map (PP K D)) := ems_nil
theorem pps {d : PyData} {ds : List PyData} (h : EvM te σ H (PP K D d)) (r : EvMs tr σ H (ds.map (PP K D))) : EvMs (tCons te tr) σ H ((d :: ds).map (PP K D)) := ems_cons grows_PP h r
/-- a list of our own: it stands at p, and its items don't lean on it -/
def PF (K : PySem.W.Frag) (ds : List PyData) : VP := fun v H => ∃ p xs, v = .ref p ∧ H p = some (.lst xs) ∧ DpAll K (delH H p) xs ds
theorem grows_PF {ds : List PyData} : Grows (PF K ds) := fun _ _ _ e ⟨p, xs, ev, hp, ha⟩ => ⟨p, xs, ev, e.lst hp, dpAll_gr (gr_dels e) _ _ ha⟩
theorem pf_pp {ds : List PyData} {v : V} (h : PF K ds v H) : PP K none (.list ds) v H := by
  obtain ⟨p, xs, rfl, hp, ha⟩ := h
  exact .lst (SqL.of hp) (dpAll_gr gr_del _ _ ha)
/-- new at p -/
theorem pf_new {ds : List PyData} {p : Addr} {xs : List V} (hp : H p = none) (h : DpAll K H xs ds) : PF K ds (.ref p) (upd H p (.lst xs)) := ⟨p, xs, rfl, upd_same, by
  rw [del_upd]
  exact dpAll_gr (gr_del2 hp (Gr.refl H)) _ _ h⟩
theorem em_PFl {ta : TA} {ds : List PyData} (h : EvMs ta σ H (ds.map (PP K none))) (hl : ds.length ≤ 1000) : EvM (tLst ta) σ H (PF K ds) :=
  em_lst (GrowsAll.map (fun _ => grows_PP) ds) h (by rw [List.length_map]; exact hl) fun p vs H2 _ a hp => pf_new hp (allP_dp a)
theorem em_cat {ds es : List PyData} (ha : EvM ta σ H (PF K ds)) (hb : EvM tb σ H (PF K es)) (hl : ds.length + es.length ≤ 100000) : EvM (tOp rCat ta tb) σ H (PF K (ds ++ es)) := fun H1 e Q q =>
  ha H1 e _ fun v H2 e2 ⟨p, xs, ev, hp, hx⟩ => hb H2 (e.trans e2) _ fun u H3 e3 ⟨r, ys, eu, hr, hy⟩ =>
    ⟨p, r, xs, ys, ev, eu, e3.lst hp, hr, by rw [dpAll_len hx, dpAll_len hy]; exact Nat.le_trans hl (by decide), fun z hz => by
      exact q _ _ ((e2.trans e3).trans (Gr.new hz)) (pf_new hz (dpAll_app (dpAll_gr (gr_del.trans e3) _ _ hx) (dpAll_gr gr_del _ _ hy)))⟩
theorem em_ixL {ds : List PyData} {d : PyData} {i : Nat} (ha : EvM ta σ H (PP K D (.list ds))) (hb : EvM tb σ H (fun v _ => v = .int (i : Int))) (hi : ds[i]? = some d) : EvM (tOp (rIxL K) ta tb) σ H (PP K D d) := fun H1 e Q q =>
  ha H1 e _ fun v H2 e2 pv => hb H2 (e.trans e2) _ fun u H3 e3 eu => by
    cases pv with
    | lst hs hx =>
      obtain ⟨x, hx1, hx2⟩ := dpAll_of hx hi
      exact ⟨_, _, (i : Int), x, rfl, eu, ((gr_vw1 D).trans e3).sql hs, atI_nat hx1, q _ H3 (e2.trans e3) (dp_gr (gr_vw D e3) _ _ hx2)⟩
theorem em_ixT {ds : List PyData} {d : PyData} {i : Nat} (ha : EvM ta σ H (PP K D (.tuple ds))) (hb : EvM tb σ H (fun v _ => v = .int (i : Int))) (hi : ds[i]? = some d) : EvM (tOp (rIxT K) ta tb) σ H (PP K D d) := fun H1 e Q q =>
  ha H1 e _ fun v H2 e2 pv => hb H2 (e.trans e2) _ fun u H3 e3 eu => by
    cases pv with
    | tup hs hx =>
      obtain ⟨x, hx1, hx2⟩ := dpAll_of hx hi
      exact ⟨_, _, (i : Int), x, rfl, eu, ((gr_vw1 D).trans e3).sqt hs, atI_nat hx1, q _ H3 (e2.trans e3) (dp_gr (gr_vw D e3) _ _ hx2)⟩
theorem em_int {i : Int} (h : EvM te σ H (PP K D (.int i))) : EvM te σ H (fun v _ => v = .int i) := em_imp h fun v H' _ p => by cases p; rfl
theorem em_of_int {i : Int} (h : EvM te σ H (fun v _ => v = .int i)) : EvM te σ H (PP K D (.int i)) := em_imp h fun v H' _ p => by subst p; exact .int i
theorem em_of_bl {b : Bool} (h : EvM te σ H (fun v _ => v = .bl b)) : EvM te σ H (PP K D (.bool b)) := em_imp h fun v H' _ p => by subst p; exact .bl b
/-! tests -/
theorem et_B {b : Bool} (h : EvM te σ H fun v _ => v = .bl b) : EvT (tB te) σ H (· = b) := fun H1 e _ q => h H1 e _ fun v H2 e2 ev => ⟨b, ev, q b H2 e2 rfl⟩
theorem et_test {b : Bool} (h : EvM te σ H fun v _ => v = .bl b) : EvT (tTest te) σ H (· = b) := fun H1 e _ q => h H1 e _ fun v H2 e2 ev => ⟨b, ev, q b H2 e2 rfl⟩
theorem et_testAny (h : EvM te σ H fun v _ => ∃ b, v = .bl b) : EvT (tTest te) σ H (fun _ => True) := fun H1 e _ q => h H1 e _ fun v H2 e2 ⟨b, ev⟩ => ⟨b, ev, q b H2 e2 trivial⟩
theorem et_not {b : Bool} (h : EvT t σ H (· = b)) : EvT (tNot t) σ H (· = !b) := fun H1 e _ q => h H1 e _ fun b' H2 e2 eb => q _ H2 e2 (by rw [eb])
theorem et_and {a b : Bool} (h1 : EvT t σ H (· = a)) (h2 : a = true → EvT u σ H (· = b)) : EvT (tAnd t u) σ H (· = (a && b)) := fun H1 e Q q => h1 H1 e _ fun x H2 e2 ex => by
  subst ex
  cases x with
  | true => exact iteT (h2 rfl H2 (e.trans e2) Q fun y H3 e3 ey => q y H3 (e2.trans e3) ey)
  | false => exact iteF (q false H2 e2 rfl)
theorem et_or {a b : Bool} (h1 : EvT t σ H (· = a)) (h2 : a = false → EvT u σ H (· = b)) : EvT (tOr t u) σ H (· = (a || b)) := fun H1 e Q q => h1 H1 e _ fun x H2 e2 ex => by
  subst ex
  cases x with
  | true => exact iteT (q true H2 e2 rfl)
  | false => exact iteF (h2 rfl H2 (e.trans e2) Q fun y H3 e3 ey => q y H3 (e2.trans e3) ey)
theorem em_andV {a b : Bool} (h1 : EvM ta σ H fun v _ => v = .bl a) (h2 : a = true → EvM tb σ H fun v _ => v = .bl b) : EvM (tAndV ta tb) σ H fun v _ => v = .bl (a && b) := fun H1 e Q q => h1 H1 e _ fun x H2 e2 ex => ⟨a, ex, by
  cases a with
  | true => exact iteT (h2 rfl H2 (e.trans e2) Q fun y H3 e3 ey => q y H3 (e2.trans e3) ey)
  | false => exact iteF (q (.bl false) H2 e2 rfl)⟩
theorem em_notV {a : Bool} (h1 : EvM ta σ H fun v _ => v = .bl a) : EvM (tNotV ta) σ H fun v _ => v = .bl (!a) := fun H1 e Q q => h1 H1 e _ fun x H2 e2 ex => ⟨a, ex, q _ H2 e2 rfl⟩
theorem em_if {b : Bool} (h : EvT t σ H (· = b)) (h1 : b = true → EvM ta σ H P) (h2 : b = false → EvM tb σ H P) : EvM (tIf t ta tb) σ H P := fun H1 e Q q => h H1 e _ fun x H2 e2 ex => by
  subst ex
  cases x with
  | true => exact iteT (h1 rfl H2 (e.trans e2) Q fun y H3 e3 py => q y H3 (e2.trans e3) py)
  | false => exact iteF (h2 rfl H2 (e.trans e2) Q fun y H3 e3 py => q y H3 (e2.trans e3) py)
/-! == of data -/
theorem em_eqD {d e : PyData} (ha : EvM ta σ H (PP K none d)) (hb : EvM tb σ H (PP K none e)) (sd : SeqAt.shaped d = true) (se : SeqAt.shaped e = true) : EvM (tOp (rEqD K) ta tb) σ H (fun v _ => v = .bl (PyData.eqv d e)) := fun H1 x Q q =>
  ha H1 x _ fun v H2 e2 pv => hb H2 (x.trans e2) _ fun u H3 e3 pu => ⟨d, e, dp_gr e3 _ _ pv, pu, sd, se, q _ H3 (e2.trans e3) rfl⟩
theorem em_neD {d e : PyData} (ha : EvM ta σ H (PP K none d)) (hb : EvM tb σ H (PP K none e)) (sd : SeqAt.shaped d = true) (se : SeqAt.shaped e = true) : EvM (tOp (rNeD K) ta tb) σ H (fun v _ => v = .bl (!PyData.eqv d e)) := fun H1 x Q q =>
  ha H1 x _ fun v H2 e2 pv => hb H2 (x.trans e2) _ fun u H3 e3 pu => ⟨d, e, dp_gr e3 _ _ pv, pu, sd, se, q _ H3 (e2.trans e3) rfl⟩
theorem em_eqI {i j : Int} (ha : EvM ta σ H fun v _ => v = .int i) (hb : EvM tb σ H fun v _ => v = .int j) : EvM (tOp rEq ta tb) σ H (fun v _ => v = .bl (decide (i = j))) := fun H1 x Q q =>
  ha H1 x _ fun v H2 e2 pv => hb H2 (x.trans e2) _ fun u H3 e3 pu => by
    subst pv pu
    refine ⟨rfl, q _ H3 (e2.trans e3) ?_⟩
    congr 1
    rw [decide_eq_decide]
    exact ⟨fun h => V.int.inj h, fun h => by rw [h]⟩
/-! draws -/
theorem em_pick {i : Nat} {t : Addr} {n : Int} (hi : σ[i]? = some (some (.ref t))) (hT : Tape H t) (hb : EvM tb σ H fun v _ => v = .int n) (h0 : 0 < n) (h1 : n < 2 ^ 30) :
    EvM (tCall spPick [] E0 (tCons (tVar i) (tCons tb tNil))) σ H (fun v _ => ∃ r, 0 ≤ r ∧ r < n ∧ v = .int r) := fun H1 e Q q =>
  ⟨_, hi, hb H1 e _ fun v H2 e2 ev => by
    have hT2 := (e.trans e2).tape_at hT
    exact ⟨t, n, by rw [ev]; rfl, hT2, h0, h1, fun r H' r0 r1 dr => q _ H' (e2.trans (Gr.drawn hT2 dr)) ⟨r, r0, r1, rfl⟩⟩⟩
theorem em_one {i : Nat} {t : Addr} {ds : List PyData} (hi : σ[i]? = some (some (.ref t))) (hT : Tape H t) (hb : EvM tb σ H (PF K ds)) (h0 : ds ≠ []) (h1 : ds.length < 2 ^ 30) :
    EvM (tCall (spOne K) [] E0 (tCons (tVar i) (tCons tb tNil))) σ H (fun v H' => ∃ d ∈ ds, Dp K H' v d) := fun H1 e Q q =>
  ⟨_, hi, hb H1 e _ fun v H2 e2 ⟨p, xs, ev, hp, hx⟩ => by
    have hT2 := (e.trans e2).tape_at hT
    have hlen := dpAll_len hx
    have hpos := List.length_pos_iff.mpr h0
    refine ⟨t, p, xs, by rw [ev]; rfl, hT2, SqL.of hp, fun z => ?_, by omega, by omega, fun k v H' hk dr => ?_⟩
    · obtain ⟨d, m, q1, _⟩ := hT2
      rw [← z, hp] at q1
      cases q1
    · obtain ⟨d, hd, hv⟩ := dpAll_get hx hk
      have g := Gr.drawn hT2 dr
      exact q _ H' (e2.trans g) ⟨d, List.mem_of_getElem? hd, dp_gr (gr_del.trans g) _ _ hv⟩⟩
/-! tuple(xs), list(xs) -/
abbrev rTupOf (K : PySem.W.Frag) : List V → Hp → VK → Prop := fun xs H Q => ∃ p ys, xs = [.ref p] ∧ ((SqL K H p ys ∧ ∀ l, H l = none → Q (.ref l) (upd H l (.tup ys))) ∨ (SqT K H p ys ∧ Q (.ref p) H))
abbrev rLstOf (K : PySem.W.Frag) : List V → Hp → VK → Prop := fun xs H Q => ∃ p ys, xs = [.ref p] ∧ (SqL K H p ys ∨ SqT K H p ys) ∧ ∀ l, H l = none → Q (.ref l) (upd H l (.lst ys))
theorem em_tupOf {ds : List PyData} (hD : On D H) (h : EvM te σ H (PP K D (.list ds))) : EvM (tCB (rTupOf K) (tCons te tNil)) σ H (PP K D (.tuple ds)) := fun H1 e Q q =>
  h H1 e _ fun v H2 e2 pv => by
    cases pv with
    | lst hs hx => exact ⟨_, _, rfl, .inl ⟨(gr_vw1 D).sql hs, fun l hl => q _ _ (e2.trans (Gr.new hl)) (.tup (Evl.st_of (vw_at D ((hD.grow (e.trans e2)).new hl) upd_same)) (dpAll_gr (gr_vw D (Gr.new hl)) _ _ hx))⟩⟩
theorem em_lstOfT {ds : List PyData} (h : EvM te σ H (PP K none (.tuple ds))) : EvM (tCB (rLstOf K) (tCons te tNil)) σ H (PF K ds) := fun H1 e Q q =>
  h H1 e _ fun v H2 e2 pv => by
    cases pv with
    | tup hs hx => exact ⟨_, _, rfl, .inr hs, fun l hl => q _ _ (e2.trans (Gr.new hl)) (pf_new hl hx)⟩
theorem em_lstOfL {ds : List PyData} (h : EvM te σ H (PP K none (.list ds))) : EvM (tCB (rLstOf K) (tCons te tNil)) σ H (PF K ds) := fun H1 e Q q =>
  h H1 e _ fun v H2 e2 pv => by
    cases pv with
    | lst hs hx => exact ⟨_, _, rfl, .inl hs, fun l hl => q _ _ (e2.trans (Gr.new hl)) (pf_new hl hx)⟩
theorem em_lenP {ds : List PyData} (h : EvM te σ H (PF K ds)) : EvM (tCB (Tp.rLen K) (tCons te tNil)) σ H (fun v _ => v = .int (ds.length : Nat)) := fun H1 e Q q =>
  h H1 e _ fun v H2 e2 ⟨p, xs, ev, hp, hx⟩ => ⟨p, xs, by rw [ev], .inl (SqL.of hp), q _ H2 e2 (by rw [dpAll_len hx])⟩
/-! statements -/
variable {E : Ends} {tz : TS}
theorem q_asg {i : Nat} (h : EvM te σ H P) (k : ∀ v H1, Gr H H1 → P v H1 → tz E (σ.set i (some v)) H1) : tSeq (tAsg te (gName i)) tz E σ H := h H (Gr.refl H) _ k
theorem s_asg {i : Nat} (h : EvM te σ H P) (k : ∀ v H1, Gr H H1 → P v H1 → E.nx (σ.set i (some v)) H1) : tAsg te (gName i) E σ H := h H (Gr.refl H) _ k
theorem q_ret (h : EvM te σ H P) (k : ∀ v H1, Gr H H1 → P v H1 → E.rt v H1) : tRet te E σ H := h H (Gr.refl H) _ k
theorem q_if {b : Bool} {ts : TS} (h : EvT t σ H (· = b)) (h1 : b = true → ∀ H1, Gr H H1 → ts { E with nx := tz E } σ H1) (h2 : b = false → ∀ H1, Gr H H1 → tz E σ H1) : tSeq (tIfS t ts tNext) tz E σ H := h H (Gr.refl H) _ fun x H1 e ex => by
  subst ex
  cases x with
  | true => exact iteT (h1 rfl H1 e)
  | false => exact iteF (h2 rfl H1 e)
theorem q_ifAny {ts : TS} (h : EvT t σ H (fun _ => True)) (h1 : ∀ H1, Gr H H1 → ts { E with nx := tz E } σ H1) (h2 : ∀ H1, Gr H H1 → tz E σ H1) : tSeq (tIfS t ts tNext) tz E σ H := h H (Gr.refl H) _ fun x H1 e _ => by
  cases x with
  | true => exact iteT (h1 H1 e)
  | false => exact iteF (h2 H1 e)
theorem q_no {ts : TS} (h : EvT t σ H (· = false)) (k : ∀ H1, Gr H H1 → tz E σ H1) : tSeq (tIfS t ts tNext) tz E σ H := q_if h (fun z => nomatch z) fun _ => k
theorem s_no {ts : TS} (h : EvT t σ H (· = false)) (k : ∀ H1, Gr H H1 → E.nx σ H1) : tIfS t ts tNext E σ H := h H (Gr.refl H) _ fun x H1 e ex => by
  subst ex
  exact iteF (k H1 e)
end
end G

set_option maxHeartbeats 400000
/-! Comprehensions, with tests and draws in them. -/
namespace G
open PySem PySem.Spec PyProof.Rows L2 Tp
section
variable {K : PySem.W.Frag} {σ : L2.St} {H : Hp} {te tl : TE} {tt : TT} {g : TG} {vs : List Nat}
/-- what one turn asks: the target's state, the test, the item -/
def Turn (K : PySem.W.Frag) (σ : L2.St) (vs : List Nat) (g : TG) (tt : TT) (te : TE) (D : Addr) (H1 : Hp) (x : V) (B : Bool → PyData → Prop) : Prop :=
  ∃ σ2, (∀ Q : L2.St → Hp → Prop, Q σ2 H1 → g x (wipe σ vs) H1 Q) ∧ wipe σ2 vs = wipe σ vs ∧
    EvT tt σ2 H1 (fun b => (b = false → B false .none) ∧ (b = true → ∃ d, B true d ∧ EvM te σ2 H1 (PP K (some D) d)))
/-- the state while a comprehension runs -/
def Run (K : PySem.W.Frag) (D : Addr) (H2 : Hp) (I : Nat → List PyData → Prop) (i : Nat) (H' : Hp) : Prop :=
  ∃ ys ds, H' D = some (.lst ys) ∧ DpAll K (delH H' D) ys ds ∧ I i ds ∧ ds.length ≤ i ∧ Gr H2 (delH H' D)
theorem run_start {D : Addr} {H2 : Hp} {I : Nat → List PyData → Prop} (hD : H2 D = none) (h0 : I 0 []) : Run K D H2 I 0 (upd H2 D (.lst [])) :=
  ⟨[], [], upd_same, .nil, h0, Nat.le_refl _, by rw [del_upd]; exact gr_del2 hD (Gr.refl H2)⟩
/-- one turn -/
theorem run_turn {D : Addr} {H2 H' : Hp} {I : Nat → List PyData → Prop} {i : Nat} {x : V} {B : Bool → PyData → Prop} (hi : i < 1000) (R : Run K D H2 I i H') (T : Turn K σ vs g tt te D H' x B)
    (hB0 : ∀ ds, I i ds → B false .none → I (i + 1) ds) (hB1 : ∀ ds d, I i ds → B true d → I (i + 1) (ds ++ [d])) :
    g x (wipe σ vs) H' fun σ2 H3 => wipe σ2 vs = wipe σ vs ∧ tt σ2 H3 fun b H4 => if b = true then te σ2 H4 fun y H5 => ∃ acc, H5 D = some (.lst acc) ∧ acc.length < sizeLine ∧ Run K D H2 I (i + 1) (upd H5 D (.lst (acc ++ [y]))) else Run K D H2 I (i + 1) H4 := by
  obtain ⟨ys, ds, hy, hx, hI, hl, e2⟩ := R
  obtain ⟨σ2, g1, g2, t1⟩ := T
  refine g1 _ ⟨g2, t1 H' (Gr.refl H') _ fun b H4 e4 hb => ?_⟩
  have grown : ∀ {H5 : Hp}, Gr H' H5 → Gr H2 (delH H5 D) := fun e5 => e2.trans (gr_dels e5)
  cases b with
  | false => exact iteF ⟨ys, ds, e4.lst hy, dpAll_gr (gr_dels e4) _ _ hx, hB0 ds hI (hb.1 rfl), by omega, grown e4⟩
  | true =>
    refine iteT ?_
    obtain ⟨d, hd, ed⟩ := hb.2 rfl
    refine ed H4 e4 _ fun y H5 e5 py => ?_
    have e45 := e4.trans e5
    refine ⟨ys, e45.lst hy, ?_, ys ++ [y], ds ++ [d], upd_same, ?_, hB1 ds d hI hd, by rw [List.length_append]; exact Nat.succ_le_succ hl, ?_⟩
    · rw [dpAll_len hx]
      exact Nat.lt_of_le_of_lt (show ds.length ≤ 1000 by omega) (by decide)
    · rw [del_upd]
      exact dpAll_app (dpAll_gr (gr_dels e45) _ _ hx) (.cons py .nil)
    · rw [del_upd]
      exact grown e45
theorem run_end {D : Addr} {H2 H' : Hp} {I : Nat → List PyData → Prop} {n : Nat} (R : Run K D H2 I n H') : Gr H2 H' ∧ ∃ ds, I n ds ∧ PF K ds (.ref D) H' := by
  obtain ⟨ys, ds, hy, hx, hI, _, e2⟩ := R
  exact ⟨e2.trans gr_del, ds, hI, D, ys, rfl, hy, hx⟩
/-- over a list -/
theorem em_lcL {ds : List PyData} {B : Nat → PyData → Bool → PyData → Prop} (I : Nat → List PyData → Prop) (h0 : I 0 []) (hz : ds.length ≤ 1000) (h : EvM tl σ H (PP K none (.list ds)))
    (body : ∀ (D : Addr) (i : Nat) (d : PyData) (x : V) (H1 : Hp), H1 D ≠ none → Gr H (delH H1 D) → ds[i]? = some d → Dp K (delH H1 D) x d → Turn K σ vs g tt te D H1 x (B i d))
    (hB0 : ∀ i d es, ds[i]? = some d → I i es → B i d false .none → I (i + 1) es) (hB1 : ∀ i d es e, ds[i]? = some d → I i es → B i d true e → I (i + 1) (es ++ [e])) :
    EvM (tLc (iList K tl) g tt te vs) σ H (fun v H' => ∃ es, I ds.length es ∧ PF K es v H') := fun H1 e Q q =>
  h H1 e _ fun v H2 e2 pv => by
    cases pv with
    | @lst a xs _ hs hx =>
      have hlen := dpAll_len hx
      refine ⟨a, rfl, ⟨xs, hs⟩, fun D hD => lc_list (K := K) (a := a) (xs := xs) (Run K D H2 I) (run_start hD h0) (fun i H' _ R => ?_) (fun i x H' hi R => ?_) fun H' R => ?_⟩
      · obtain ⟨_, _, _, _, _, _, e3⟩ := R
        exact (e3.trans gr_del).sql hs
      · have hi2 : i < xs.length := (List.getElem?_eq_some_iff.mp hi).1
        obtain ⟨d, hd, px⟩ := dpAll_get hx hi
        have e3 : Gr H2 (delH H' D) := by
          obtain ⟨_, _, _, _, _, _, e3⟩ := R
          exact e3
        have hn : H' D ≠ none := by
          obtain ⟨_, _, z, _⟩ := R
          rw [z]
          exact fun z => nomatch z
        exact run_turn (by omega) R (body D i d x H' hn ((e.trans e2).trans e3) hd (dp_gr e3 _ _ px)) (fun es => hB0 i d es hd) fun es e' => hB1 i d es e' hd
      · rw [hlen] at R
        obtain ⟨e3, es, hI, pf⟩ := run_end R
        exact q _ H' (e2.trans e3) ⟨es, hI, pf⟩
/-- over a tuple -/
theorem em_lcT {ds : List PyData} {B : Nat → PyData → Bool → PyData → Prop} (I : Nat → List PyData → Prop) (h0 : I 0 []) (hz : ds.length ≤ 1000) (h : EvM tl σ H (PP K none (.tuple ds)))
    (body : ∀ (D : Addr) (i : Nat) (d : PyData) (x : V) (H1 : Hp), H1 D ≠ none → Gr H (delH H1 D) → ds[i]? = some d → Dp K (delH H1 D) x d → Turn K σ vs g tt te D H1 x (B i d))
    (hB0 : ∀ i d es, ds[i]? = some d → I i es → B i d false .none → I (i + 1) es) (hB1 : ∀ i d es e, ds[i]? = some d → I i es → B i d true e → I (i + 1) (es ++ [e])) :
    EvM (tLc (iTup K tl) g tt te vs) σ H (fun v H' => ∃ es, I ds.length es ∧ PF K es v H') := fun H1 e Q q =>
  h H1 e _ fun v H2 e2 pv => by
    cases pv with
    | @tup a xs _ hs hx =>
      have hlen := dpAll_len hx
      refine ⟨a, rfl, ⟨xs, hs⟩, fun D hD => lc_tup (K := K) (a := a) (xs := xs) (Run K D H2 I) (run_start hD h0) (fun i H' _ R => ?_) (fun i x H' hi R => ?_) fun H' R => ?_⟩
      · obtain ⟨_, _, _, _, _, _, e3⟩ := R
        exact (e3.trans gr_del).sqt hs
      · have hi2 : i < xs.length := (List.getElem?_eq_some_iff.mp hi).1
        obtain ⟨d, hd, px⟩ := dpAll_get hx hi
        have e3 : Gr H2 (delH H' D) := by
          obtain ⟨_, _, _, _, _, _, e3⟩ := R
          exact e3
        have hn : H' D ≠ none := by
          obtain ⟨_, _, z, _⟩ := R
          rw [z]
          exact fun z => nomatch z
        exact run_turn (by omega) R (body D i d x H' hn ((e.trans e2).trans e3) hd (dp_gr e3 _ _ px)) (fun es => hB0 i d es hd) fun es e' => hB1 i d es e' hd
      · rw [hlen] at R
        obtain ⟨e3, es, hI, pf⟩ := run_end R
        exact q _ H' (e2.trans e3) ⟨es, hI, pf⟩
/-- over range(a), range(a, b) -/
theorem em_lcRg {wi : TI} {lo : Int} {n : Nat} {B : Nat → Bool → PyData → Prop} (I : Nat → List PyData → Prop) (h0 : I 0 []) (hn : n ≤ 1000) (hw : ∀ H1, Gr H H1 → ∀ R : It → Hp → Prop, (∀ H2, Gr H1 H2 → R (Itr lo n) H2) → wi σ H1 R)
    (body : ∀ (D : Addr) (i : Nat) (H1 : Hp), H1 D ≠ none → Gr H (delH H1 D) → i < n → Turn K σ vs g tt te D H1 (.int (lo + i)) (B i))
    (hB0 : ∀ i es, i < n → I i es → B i false .none → I (i + 1) es) (hB1 : ∀ i es e, i < n → I i es → B i true e → I (i + 1) (es ++ [e])) :
    EvM (tLc wi g tt te vs) σ H (fun v H' => ∃ es, I n es ∧ PF K es v H') := fun H1 e Q q =>
  hw H1 e _ fun H2 e2 D hD => by
    refine lc_range (lo := lo) (n := n) (Run K D H2 I) (run_start hD h0) (fun i H' hi R => ?_) fun H' R => ?_
    · have e3 : Gr H2 (delH H' D) := by
        obtain ⟨_, _, _, _, _, _, e3⟩ := R
        exact e3
      have hn' : H' D ≠ none := by
        obtain ⟨_, _, z, _⟩ := R
        rw [z]
        exact fun z => nomatch z
      exact run_turn (by omega) R (body D i H' hn' ((e.trans e2).trans e3) hi) (fun es => hB0 i es hi) fun es e' => hB1 i es e' hi
    · obtain ⟨e3, es, hI, pf⟩ := run_end R
      exact q _ H' (e2.trans e3) ⟨es, hI, pf⟩
theorem rg_1 {ta : TE} {n : Nat} (hn : n ≤ 1000) (h : EvM ta σ H (fun v _ => v = .int (n : Int))) : ∀ H1, Gr H H1 → ∀ R : It → Hp → Prop, (∀ H2, Gr H1 H2 → R (Itr 0 n) H2) → iRng1 (tCons ta tNil) σ H1 R := fun H1 e R r =>
  h H1 e _ fun v H2 e2 ev => by
    subst ev
    exact ⟨(n : Int), rfl, by omega, by omega, by rw [Int.toNat_natCast]; exact r H2 e2⟩
/-- the items that pass the test, each by its word -/
theorem take_filter {α β : Type} {p : α → Bool} {f : α → β} {l : List α} {i : Nat} {x : α} (h : l[i]? = some x) : ((l.take (i + 1)).filter p).map f = ((l.take i).filter p).map f ++ (if p x = true then [f x] else []) := by
  rw [take_snoc h, List.filter_append, List.map_append]
  congr 1
  cases e : p x <;> simp [e]
/-- a turn with a test that is plain and an item that is plain -/
theorem turn_of {D : Addr} {H1 : Hp} {x : V} {d : PyData} {pr : PyData → Bool} {f : PyData → PyData} (h : ∃ σ2, (∀ Q : L2.St → Hp → Prop, Q σ2 H1 → g x (wipe σ vs) H1 Q) ∧ wipe σ2 vs = wipe σ vs ∧
      EvT tt σ2 H1 (· = pr d) ∧ (pr d = true → EvM te σ2 H1 (PP K (some D) (f d)))) : Turn K σ vs g tt te D H1 x (fun b e => b = pr d ∧ (b = true → e = f d)) := by
  obtain ⟨σ2, h1, h2, h3, h4⟩ := h
  refine ⟨σ2, h1, h2, fun H2 e Q q => h3 H2 e _ fun b H3 e3 eb => q b H3 e3 ⟨fun z => ⟨by rw [← z, eb], fun z => nomatch z⟩, fun z => ⟨f d, ⟨by rw [← z, eb], fun _ => rfl⟩, h4 (by rw [← eb, z])⟩⟩⟩
theorem em_filtL {ds : List PyData} (pr : PyData → Bool) (f : PyData → PyData) (hz : ds.length ≤ 1000) (h : EvM tl σ H (PP K none (.list ds)))
    (body : ∀ (D : Addr) (d : PyData) (x : V) (H1 : Hp), H1 D ≠ none → Gr H (delH H1 D) → d ∈ ds → Dp K (delH H1 D) x d → ∃ σ2, (∀ Q : L2.St → Hp → Prop, Q σ2 H1 → g x (wipe σ vs) H1 Q) ∧ wipe σ2 vs = wipe σ vs ∧
      EvT tt σ2 H1 (· = pr d) ∧ (pr d = true → EvM te σ2 H1 (PP K (some D) (f d)))) :
    EvM (tLc (iList K tl) g tt te vs) σ H (PF K ((ds.filter pr).map f)) := by
  refine em_imp (em_lcL (B := fun _ d b e => b = pr d ∧ (b = true → e = f d)) (fun i es => es = ((ds.take i).filter pr).map f) (by simp) hz h (fun D i d x H1 hD e hd px => turn_of (body D d x H1 hD e (List.mem_of_getElem? hd) px)) ?_ ?_) fun v H' _ ⟨es, he, pf⟩ => ?_
  · intro i d es hd hI hb
    rw [take_filter hd, ← hI, ← hb.1]
    simp
  · intro i d es e' hd hI hb
    rw [take_filter hd, ← hI, ← hb.1, hb.2 rfl]
    simp
  · rw [List.take_length] at he
    rw [← he]
    exact pf
theorem em_filtT {ds : List PyData} (pr : PyData → Bool) (f : PyData → PyData) (hz : ds.length ≤ 1000) (h : EvM tl σ H (PP K none (.tuple ds)))
    (body : ∀ (D : Addr) (d : PyData) (x : V) (H1 : Hp), H1 D ≠ none → Gr H (delH H1 D) → d ∈ ds → Dp K (delH H1 D) x d → ∃ σ2, (∀ Q : L2.St → Hp → Prop, Q σ2 H1 → g x (wipe σ vs) H1 Q) ∧ wipe σ2 vs = wipe σ vs ∧
      EvT tt σ2 H1 (· = pr d) ∧ (pr d = true → EvM te σ2 H1 (PP K (some D) (f d)))) :
    EvM (tLc (iTup K tl) g tt te vs) σ H (PF K ((ds.filter pr).map f)) := by
  refine em_imp (em_lcT (B := fun _ d b e => b = pr d ∧ (b = true → e = f d)) (fun i es => es = ((ds.take i).filter pr).map f) (by simp) hz h (fun D i d x H1 hD e hd px => turn_of (body D d x H1 hD e (List.mem_of_getElem? hd) px)) ?_ ?_) fun v H' _ ⟨es, he, pf⟩ => ?_
  · intro i d es hd hI hb
    rw [take_filter hd, ← hI, ← hb.1]
    simp
  · intro i d es e' hd hI hb
    rw [take_filter hd, ← hI, ← hb.1, hb.2 rfl]
    simp
  · rw [List.take_length] at he
    rw [← he]
    exact pf
/-- a test that may come out either way: some of the items, in their turns -/
theorem em_someL {ds : List PyData} (hz : ds.length ≤ 1000) (h : EvM tl σ H (PP K none (.list ds)))
    (body : ∀ (D : Addr) (d : PyData) (x : V) (H1 : Hp), H1 D ≠ none → Gr H (delH H1 D) → d ∈ ds → Dp K (delH H1 D) x d → ∃ σ2, (∀ Q : L2.St → Hp → Prop, Q σ2 H1 → g x (wipe σ vs) H1 Q) ∧ wipe σ2 vs = wipe σ vs ∧
      EvT tt σ2 H1 (fun _ => True) ∧ EvM te σ2 H1 (PP K (some D) d)) :
    EvM (tLc (iList K tl) g tt te vs) σ H (fun v H' => ∃ es, es.Sublist ds ∧ PF K es v H') := by
  refine em_imp (em_lcL (B := fun _ d b e => b = true → e = d) (fun i es => es.Sublist (ds.take i)) (by simp) hz h (fun D i d x H1 hD e hd px => ?_) ?_ ?_) fun v H' _ ⟨es, he, pf⟩ => ⟨es, by rw [List.take_length] at he; exact he, pf⟩
  · obtain ⟨σ2, h1, h2, h3, h4⟩ := body D d x H1 hD e (List.mem_of_getElem? hd) px
    exact ⟨σ2, h1, h2, fun H2 e Q q => h3 H2 e _ fun b H3 e3 _ => q b H3 e3 ⟨fun z z2 => (nomatch z2), fun _ => ⟨d, fun _ => rfl, h4⟩⟩⟩
  · intro i d es hd hI _
    rw [take_snoc hd]
    exact hI.trans (List.sublist_append_left _ _)
  · intro i d es e' hd hI hb
    rw [take_snoc hd, hb rfl]
    exact hI.append (List.Sublist.refl _)
end
end G

set_option maxHeartbeats 400000
/-! Pairs, grids, things in a drawn sequence. -/
namespace G
open PySem PySem.Spec PyProof.Rows L2 Tp
/-- data without lists -/
def noL : PyData → Bool
  | .list _ => false
  | .tuple ds => noLs ds
  | _ => true
where noLs : List PyData → Bool
  | [] => true
  | d :: ds => noL d && noLs ds
theorem noLs_all : ∀ {ds : List PyData}, noL.noLs ds = true ↔ ∀ d ∈ ds, noL d = true
  | [] => by simp [noL.noLs]
  | d :: ds => by simp [noL.noLs, noLs_all (ds := ds)]
section
variable {K : PySem.W.Frag} {H : Hp} {p : Addr} {xs0 : List V}
theorem sqt_upL {o : HO} {a : Addr} {xs : List V} (hp : H p = some (.lst xs0)) (h : SqT K H a xs) : SqT K (upd H p o) a xs := by
  rcases h with (h | ⟨u, h⟩) | h
  · exact .inl (.inl (by rw [upd_ne (ne_of h hp (by intro z; cases z))]; exact h))
  · exact .inl (.inr ⟨u, by rw [upd_ne (ne_of h hp (by intro z; cases z))]; exact h⟩)
  · exact .inr h
theorem sqt_delL {a : Addr} {xs : List V} (hp : H p = some (.lst xs0)) (h : SqT K H a xs) : SqT K (delH H p) a xs := by
  rcases h with (h | ⟨u, h⟩) | h
  · exact .inl (.inl (by rw [delH_ne (ne_of h hp (by intro z; cases z))]; exact h))
  · exact .inl (.inr ⟨u, by rw [delH_ne (ne_of h hp (by intro z; cases z))]; exact h⟩)
  · exact .inr h
mutual
theorem dp_upL {o : HO} (hp : H p = some (.lst xs0)) : ∀ (d : PyData) (v : V), noL d = true → Dp K H v d → Dp K (upd H p o) v d
  | .none, _, _, h => by cases h; exact .non
  | .bool b, _, _, h => by cases h; exact .bl b
  | .int i, _, _, h => by cases h; exact .int i
  | .str x, _, _, h => by cases h; exact .str x
  | .list ds, _, n, h => by simp [noL] at n
  | .tuple ds, _, n, h => by
    cases h with
    | tup hs ha => exact .tup (sqt_upL hp hs) (dpAll_upL hp ds _ n ha)
  | .dict _, _, _, h => by cases h
theorem dpAll_upL {o : HO} (hp : H p = some (.lst xs0)) : ∀ (ds : List PyData) (vs : List V), noL.noLs ds = true → DpAll K H vs ds → DpAll K (upd H p o) vs ds
  | [], _, _, h => by cases h; exact .nil
  | d :: ds, _, n, h => by
    rw [noL.noLs, Bool.and_eq_true] at n
    cases h with
    | cons h1 h2 => exact .cons (dp_upL hp d _ n.1 h1) (dpAll_upL hp ds _ n.2 h2)
end
mutual
theorem dp_delL (hp : H p = some (.lst xs0)) : ∀ (d : PyData) (v : V), noL d = true → Dp K H v d → Dp K (delH H p) v d
  | .none, _, _, h => by cases h; exact .non
  | .bool b, _, _, h => by cases h; exact .bl b
  | .int i, _, _, h => by cases h; exact .int i
  | .str x, _, _, h => by cases h; exact .str x
  | .list ds, _, n, h => by simp [noL] at n
  | .tuple ds, _, n, h => by
    cases h with
    | tup hs ha => exact .tup (sqt_delL hp hs) (dpAll_delL hp ds _ n ha)
  | .dict _, _, _, h => by cases h
theorem dpAll_delL (hp : H p = some (.lst xs0)) : ∀ (ds : List PyData) (vs : List V), noL.noLs ds = true → DpAll K H vs ds → DpAll K (delH H p) vs ds
  | [], _, _, h => by cases h; exact .nil
  | d :: ds, _, n, h => by
    rw [noL.noLs, Bool.and_eq_true] at n
    cases h with
    | cons h1 h2 => exact .cons (dp_delL hp d _ n.1 h1) (dpAll_delL hp ds _ n.2 h2)
end
theorem pf_noL {ds : List PyData} (n : noL.noLs ds = true) {xs : List V} (hp : H p = some (.lst xs)) (h : DpAll K H xs ds) : PF K ds (.ref p) H := ⟨p, xs, rfl, hp, dpAll_delL hp ds _ n h⟩
end

/-! ### pairs and grids -/
abbrev Pr := Int × Int
def pairD (p : Pr) : PyData := .tuple [.int p.1, .int p.2]
def gridP (m n : Nat) : List Pr := (List.range m).flatMap fun (a : Nat) => (List.range n).map fun (b : Nat) => ((a : Int), (b : Int))
theorem noL_pairs (l : List Pr) : noL.noLs (l.map pairD) = true := noLs_all.mpr fun d hd => by
  obtain ⟨p, _, rfl⟩ := List.mem_map.mp hd
  rfl
theorem gridP_succ (m n : Nat) : gridP (m + 1) n = gridP m n ++ (List.range n).map fun (b : Nat) => ((m : Int), (b : Int)) := by
  unfold gridP
  rw [List.range_succ, List.flatMap_append]
  simp
theorem gridP_len (m n : Nat) : (gridP m n).length = m * n := by
  induction m with
  | zero => simp [gridP]
  | succ m ih => rw [gridP_succ, List.length_append, ih, List.length_map, List.length_range, Nat.succ_mul]
abbrev NGrid : List Str := ["many", "wide", "found", "at", "row_here"]
def t_grid : TS :=
  tSeq (tAsg (tLst tNil) (gName 2))
  (tSeq (tFor (iRng1 (tCons (tVar 0) tNil)) (gName 3) (tAsg (tOp rCat (tVar 2) (tLc (iRng1 (tCons (tVar 1) tNil)) (gName 4) tYes (tTup (tCons (tVar 3) (tCons (tVar 4) tNil))) [4])) (gName 2)))
  (tRet (tVar 2)))
def spGrid (K : PySem.W.Frag) : Sp := fun vs H Q _ => ∃ m n : Nat, vs = [.int (m : Int), .int (n : Int)] ∧ m ≤ 4 ∧ n ≤ 4 ∧ ∀ v H', Gr H H' → PF K ((gridP m n).map pairD) v H' → Q v H'
section
variable {K : PySem.W.Frag} {σ : L2.St} {H : Hp}
theorem em_yes {P : Bool → Prop} (h : P true) : EvT tYes σ H P := fun H1 _ Q q => q true H1 (Gr.refl H1) h
theorem em_pair {D : Vw} {ta tb : TE} {a b : Int} (hD : On D H) (ha : EvM ta σ H fun v _ => v = .int a) (hb : EvM tb σ H fun v _ => v = .int b) : EvM (tTup (tCons ta (tCons tb tNil))) σ H (PP K D (pairD (a, b))) :=
  em_PPtup hD (pps (em_of_int ha) (pps (em_of_int hb) pp0)) (by show 2 ≤ 1000; decide)
/-- [f(x) for x in range(..)] -/
theorem em_mapRg {te : TE} {g : TG} {vs : List Nat} {wi : TI} {lo : Int} {n : Nat} (f : Nat → PyData) (hn : n ≤ 1000) (hw : ∀ H1, Gr H H1 → ∀ R : It → Hp → Prop, (∀ H2, Gr H1 H2 → R (Itr lo n) H2) → wi σ H1 R)
    (body : ∀ (D : Addr) (i : Nat) (H1 : Hp), H1 D ≠ none → Gr H (delH H1 D) → i < n → ∃ σ2, (∀ Q : L2.St → Hp → Prop, Q σ2 H1 → g (.int (lo + i)) (wipe σ vs) H1 Q) ∧ wipe σ2 vs = wipe σ vs ∧ EvM te σ2 H1 (PP K (some D) (f i))) :
    EvM (tLc wi g tYes te vs) σ H (PF K ((List.range n).map f)) := by
  have hc := em_lcRg (K := K) (tt := tYes) (te := te) (B := fun j b d => b = true ∧ d = f j) (fun j ds => ds = (List.range j).map f) rfl hn hw (fun D i H1 hD e hi => by
    obtain ⟨σ2, h1, h2, h3⟩ := body D i H1 hD e hi
    exact ⟨σ2, h1, h2, em_yes ⟨(fun z => by cases z), fun _ => ⟨f i, ⟨rfl, rfl⟩, h3⟩⟩⟩) (fun j es _ _ hb => by cases hb.1) (fun j es e' _ hI hb => by rw [hb.2, hI, List.range_succ, List.map_append]; rfl)
  exact em_imp hc fun v' H' _ ⟨es, he, pf⟩ => by
    rw [← he]
    exact pf
/-- for at in range(..): the state of the walk -/
theorem pure_grid (vs : List V) (H : Hp) (Q : VK) (E : XK) (h : spGrid K vs H Q E) : t_grid { nx := fun _ H' => Q .non H', rt := Q } (start NGrid vs) H := by
  obtain ⟨m, n, rfl, hm, hn, k⟩ := h
  unfold t_grid
  refine q_asg (P := PF K []) (em_PFl pp0 (by decide)) fun v1 H1 e1 p1 => ?_
  refine ⟨_, rfl, (m : Int), rfl, by omega, by omega, ?_⟩
  rw [Int.toNat_natCast]
  refine for_range (lo := 0) (n := m) (fun i σ H' => ∃ v a, σ = [some (.int (m : Int)), some (.int (n : Int)), some v, a, none] ∧ PF K ((gridP i n).map pairD) v H' ∧ Gr H H') ⟨v1, none, rfl, p1, e1⟩ (fun i σ H' hi ⟨v, a, es, pf, e⟩ => ?_) fun σ H' ⟨v, a, es, pf, e⟩ => ?_
  · subst es
    refine s_asg (P := PF K ((gridP (i + 1) n).map pairD)) ?_ fun v2 H2 e2 p2 => ⟨v2, _, rfl, p2, e.trans e2⟩
    rw [gridP_succ, List.map_append]
    have z := gridP_len i n
    have hin : i * n ≤ 16 := Nat.le_trans (Nat.mul_le_mul (show i ≤ 4 by omega) hn) (by decide)
    refine em_cat (em_vP grows_PF rfl pf) ?_ (by rw [List.length_map, List.length_map, List.length_map, List.length_range, z]; omega)
    have hc := em_mapRg (σ := [some (.int (m : Int)), some (.int (n : Int)), some v, some (.int (0 + (i : Int))), none]) (H := H') (K := K) (te := tTup (tCons (tVar 3) (tCons (tVar 4) tNil))) (vs := [4]) (lo := 0) (n := n) (g := gName 4) (wi := iRng1 (tCons (tVar 1) tNil)) (fun (b : Nat) => pairD ((i : Int), (b : Int))) (by omega) (rg_1 (by omega) (em_var rfl fun _ _ => rfl)) (fun D j H3 hD e3 hj => ?_)
    · rw [List.map_map]
      exact hc
    · refine ⟨_, fun Q q => q, rfl, ?_⟩
      refine em_pair (On.some hD) ?_ ?_
      · exact em_var rfl fun _ _ => by rw [Int.zero_add]
      · exact em_var rfl fun _ _ => by rw [Int.zero_add]
  · subst es
    exact q_ret (em_vP grows_PF rfl pf) fun v' H3 e3 p3 => k v' H3 (e.trans e3) p3
end
end G

set_option maxHeartbeats 400000
/-! Things in a drawn sequence. -/
namespace G
open PySem PySem.Spec PyProof.Rows L2 Tp
/-- data that stand in lists of things -/
def item (d : PyData) : Bool := noL d && d.canLay0 && decide (d.depth ≤ 60)
theorem item_lay : ∀ {ds : List PyData}, (∀ d ∈ ds, item d = true) → PyData.canLayAll0 ds = true ∧ PyData.depthAll ds ≤ 60
  | [], _ => ⟨by simp [PyData.canLayAll0], by simp [PyData.depthAll]⟩
  | d :: ds, h => by
    have h1 := h d List.mem_cons_self
    have h2 := item_lay (ds := ds) fun e he => h e (List.mem_cons_of_mem _ he)
    unfold item at h1
    simp only [Bool.and_eq_true, decide_eq_true_eq] at h1
    refine ⟨by rw [PyData.canLayAll0, h1.1.2, h2.1]; rfl, ?_⟩
    rw [PyData.depthAll]
    omega
theorem shaped_list {ds : List PyData} (h : ∀ d ∈ ds, item d = true) : SeqAt.shaped (.list ds) = true := by
  have q := item_lay h
  unfold SeqAt.shaped
  rw [PyData.canLay0, PyData.depth, q.1, Bool.true_and, decide_eq_true_eq]
  omega
theorem shaped_tup {ds : List PyData} (h : ∀ d ∈ ds, item d = true) : SeqAt.shaped (.tuple ds) = true := by
  have q := item_lay h
  unfold SeqAt.shaped
  rw [PyData.canLay0, PyData.depth, q.1, Bool.true_and, decide_eq_true_eq]
  omega
theorem item_noL {ds : List PyData} (h : ∀ d ∈ ds, item d = true) : noL.noLs ds = true := noLs_all.mpr fun d hd => by
  have h1 := h d hd
  unfold item at h1
  simp only [Bool.and_eq_true] at h1
  exact h1.1.1
theorem item_pair (p : Pr) : item (pairD p) = true := by
  unfold item pairD
  simp [noL, noL.noLs, PyData.canLay0, PyData.canLayAll0, PyData.depth, PyData.depthAll]
theorem items_pairs (l : List Pr) : ∀ d ∈ l.map pairD, item d = true := fun d hd => by
  obtain ⟨p, _, rfl⟩ := List.mem_map.mp hd
  exact item_pair p
theorem eqv_nil (ds : List PyData) : PyData.eqv (.list ds) (.list []) = ds.isEmpty := by
  cases ds <;> simp [PyData.eqv, PyData.eqvAll]
abbrev NShuf : List Str := ["tape", "things", "left", "found"]
def t_shuf (K : PySem.W.Frag) : TS :=
  tSeq (tPar 2 3 (tCons (tCB (rLstOf K) (tCons (tVar 1) tNil)) (tCons (tLst tNil) tNil)))
  (tSeq (tWhile (tTest (tOp (rNeD K) (tVar 2) (tLst tNil))) (tDrop (tBM K "list" rAppend (tVar 3) (tCons (tBM K "list" rPopAt (tVar 2) (tCons (tCall spPick [] E0 (tCons (tVar 0) (tCons (tCB (Tp.rLen K) (tCons (tVar 2) tNil)) tNil))) tNil)) tNil))))
  (tRet (tVar 3)))
def spShuf (K : PySem.W.Frag) : Sp := fun vs H Q _ => ∃ (t : Addr) (v : V) (ds : List PyData), vs = [.ref t, v] ∧ Tape H t ∧ (Dp K H v (.tuple ds) ∨ Dp K H v (.list ds)) ∧ ds.length ≤ 1000 ∧ (∀ d ∈ ds, item d = true) ∧
  ∀ p xs es H', H p = none → Gr H H' → H' p = some (.lst xs) → DpAll K (delH H' p) xs es → es.Perm ds → Q (.ref p) H'
section
variable {K : PySem.W.Frag} {σ : L2.St} {H : Hp}
theorem q_par {ta : TA} {tz : TS} {E : Ends} {Ps : List VP} {i j : Nat} (h : EvMs ta σ H Ps) (k : ∀ vs H1, Gr H H1 → AllP H1 Ps vs → ∃ v w, vs = [v, w] ∧ tz E ((σ.set i (some v)).set j (some w)) H1) : tSeq (tPar i j ta) tz E σ H := h H (Gr.refl H) _ k
theorem lstOf_new {v : V} {ds : List PyData} {te : TE} (hv : EvM te σ H (fun u H' => u = v)) (h : Dp K H v (.tuple ds) ∨ Dp K H v (.list ds)) :
    EvM (tCB (rLstOf K) (tCons te tNil)) σ H (fun u H' => ∃ p xs, u = .ref p ∧ H p = none ∧ H' p = some (.lst xs) ∧ DpAll K (delH H' p) xs ds) := fun H1 e Q q =>
  hv H1 e _ fun u H2 e2 eu => by
    subst eu
    have e02 := e.trans e2
    have go : ∀ a xs, u = .ref a → (SqL K H2 a xs ∨ SqT K H2 a xs) → DpAll K H2 xs ds → (rLstOf K) [u] H2 Q := fun a xs ev hs hx => ⟨a, xs, by rw [ev], hs, fun l hl =>
      q _ _ (e2.trans (Gr.new hl)) ⟨l, xs, rfl, e02.back hl, upd_same, by rw [del_upd]; exact dpAll_gr (gr_del2 hl (Gr.refl H2)) _ _ hx⟩⟩
    rcases h with h | h
    · cases h with
      | tup hs hx => exact go _ _ rfl (.inr (e02.sqt hs)) (dpAll_gr e02 _ _ hx)
    · cases h with
      | lst hs hx => exact go _ _ rfl (.inl (e02.sql hs)) (dpAll_gr e02 _ _ hx)
theorem cons_erase {α : Type} : ∀ {ls : List α} {k : Nat} (h : k < ls.length), (ls[k] :: ls.eraseIdx k).Perm ls
  | [], _, h => absurd h (by simp)
  | x :: ls, 0, _ => by simp
  | x :: ls, k + 1, h => by
    have q := cons_erase (ls := ls) (k := k) (by simpa using h)
    simp only [List.getElem_cons_succ, List.eraseIdx_cons_succ]
    exact (List.Perm.swap _ _ _).trans (q.cons x)
theorem perm_erase {α : Type} {fs ls ds : List α} {k : Nat} {d : α} (h : (fs ++ ls).Perm ds) (hk : ls[k]? = some d) : ((fs ++ [d]) ++ ls.eraseIdx k).Perm ds := by
  refine List.Perm.trans ?_ h
  rw [List.append_assoc]
  refine List.Perm.append_left fs ?_
  obtain ⟨hlt, rfl⟩ := List.getElem?_eq_some_iff.mp hk
  exact (cons_erase hlt)
/-- the state of the walk -/
def ShInv (K : PySem.W.Frag) (t p q : Addr) (v : V) (H : Hp) (ds : List PyData) (σ : L2.St) (H' : Hp) : Prop :=
  ∃ xs ys ls fs, σ = [some (.ref t), some v, some (.ref p), some (.ref q)] ∧ H' p = some (.lst xs) ∧ H' q = some (.lst ys) ∧ DpAll K H' xs ls ∧ DpAll K H' ys fs ∧ (fs ++ ls).Perm ds ∧ Gr H H'
def mu (p : Addr) (H' : Hp) : Nat := match H' p with
  | some (.lst xs) => xs.length
  | _ => 0
theorem mu_eq {p : Addr} {H' : Hp} {xs : List V} (h : H' p = some (.lst xs)) : mu p H' = xs.length := by
  unfold mu
  rw [h]
theorem pure_shuf (vs : List V) (H : Hp) (Q : VK) (E : XK) (h : spShuf K vs H Q E) : t_shuf K { nx := fun _ H' => Q .non H', rt := Q } (start NShuf vs) H := by
  obtain ⟨t, v, ds, rfl, hT, hv, hlen, hit, k⟩ := h
  unfold t_shuf
  refine lstOf_new (K := K) (ds := ds) (em_var rfl fun _ _ => rfl) hv H (Gr.refl H) _ fun u H2 e2 hu => ⟨by decide, fun q hq => ⟨_, _, rfl, ?_⟩⟩
  obtain ⟨p, xs, rfl, hp, hp2, hx⟩ := hu
  have npq : p ≠ q := ne_of_none hp2 hq
  have e3 := Gr.new (o := .lst []) hq
  have e23 := e2.trans e3
  refine while_by (ShInv K t p q v H ds) (fun _ H' => mu p H') ⟨xs, [], ds, [], rfl, e3.lst hp2, upd_same, dpAll_gr (gr_del.trans e3) _ _ hx, .nil, .refl _, e23⟩ (fun σ H' I => ?_) fun σ H' Q1 Q2 m h => ?_
  · obtain ⟨ys, zs, ls, fs, rfl, hp', hq', hl, hf, pm, e⟩ := I
    have itL : ∀ d ∈ ls, item d = true := fun d hd => hit d (pm.mem_iff.mp (List.mem_append_right _ hd))
    have itF : ∀ d ∈ fs, item d = true := fun d hd => hit d (pm.mem_iff.mp (List.mem_append_left _ hd))
    have tst := et_test (em_neD (K := K) (d := .list ls) (e := .list []) (σ := [some (.ref t), some v, some (.ref p), some (.ref q)]) (H := H') (em_vP (i := 2) grows_PP rfl (.lst (SqL.of hp') hl)) (em_imp (em_PFl pp0 (by decide)) fun _ _ _ h => pf_pp h) (shaped_list itL) (by decide))
    refine tst H' (Gr.refl H') _ fun b H4 e4 eb => ?_
    rw [eqv_nil] at eb
    have hp4 := e4.lst hp'
    have hq4 := e4.lst hq'
    have e04 := e.trans e4
    have hl4 := dpAll_gr e4 _ _ hl
    have hf4 := dpAll_gr e4 _ _ hf
    have lenL := dpAll_len hl
    have lenF := dpAll_len hf
    have lenP := pm.length_eq
    rw [List.length_append] at lenP
    cases ls with
    | nil =>
      subst eb
      refine iteF ⟨_, rfl, k q zs fs H4 ?_ e04 hq4 (dpAll_delL hq4 fs _ (item_noL itF) hf4) (by simpa using pm)⟩
      exact e2.back hq
    | cons d ls =>
      subst eb
      refine iteT ⟨_, rfl, .inl ⟨rfl, _, SqL.of hq4⟩, _, rfl, .inl ⟨rfl, _, SqL.of hp4⟩, _, rfl, _, rfl, p, ys, rfl, .inl (SqL.of hp4), t, _, rfl, e04.tape_at hT, ?_, ?_, fun r H5 r0 r1 dr => ?_⟩
      · rw [lenL]
        exact Int.natCast_pos.mpr (Nat.succ_pos _)
      · rw [lenL]
        have : (d :: ls).length ≤ 1000 := by omega
        omega
      · have e5 := Gr.drawn (e04.tape_at hT) dr
        have hp5 := e5.lst hp4
        have hq5 := e5.lst hq4
        obtain ⟨j, rfl⟩ : ∃ j : Nat, r = (j : Int) := ⟨r.toNat, by omega⟩
        have hj : j < ys.length := by omega
        have hyj : ys[j]? = some ys[j] := List.getElem?_eq_getElem hj
        have hl5 := dpAll_gr e5 _ _ hl4
        have hf5 := dpAll_gr e5 _ _ hf4
        obtain ⟨dj, hdj, pj⟩ := dpAll_get hl5 hyj
        have nL := item_noL itL
        have nF := item_noL itF
        have nj : noL dj = true := noLs_all.mp nL dj (List.mem_of_getElem? hdj)
        have big : ys.length ≤ 1000 := by omega
        refine ⟨p, ys, (j : Int), j, ys[j], rfl, rfl, hp5, by omega, by omega, ?_, hyj, q, zs, ys[j], rfl, rfl, ?_, ?_, ?_, ?_⟩
        · unfold seqIndex?
          have n1 : ¬ ((j : Int) < 0) := by omega
          simp only [n1, if_false]
          have n2 : (decide (0 ≤ (j : Int)) && decide ((j : Int) < (ys.length : Int))) = true := by
            rw [Bool.and_eq_true, decide_eq_true_eq, decide_eq_true_eq]
            omega
          rw [n2]
          simp
        · rw [upd_ne npq.symm]
          exact hq5
        · exact Nat.lt_of_le_of_lt (show zs.length ≤ 1000 by omega) (by decide)
        · have hp6 : (upd (upd H5 p (.lst (ys.eraseIdx j))) q (.lst (zs ++ [ys[j]]))) p = some (.lst (ys.eraseIdx j)) := by
            rw [upd_ne npq, upd_same]
          have hq6 : (upd H5 p (.lst (ys.eraseIdx j))) q = some (.lst zs) := by rw [upd_ne npq.symm]; exact hq5
          refine ⟨ys.eraseIdx j, zs ++ [ys[j]], (d :: ls).eraseIdx j, fs ++ [dj], rfl, hp6, upd_same, ?_, ?_, perm_erase pm hdj, ?_⟩
          · exact dpAll_erase j (dpAll_upL hq6 _ _ nL (dpAll_upL hp5 _ _ nL hl5))
          · exact dpAll_app (dpAll_upL hq6 _ _ nF (dpAll_upL hp5 _ _ nF hf5)) (.cons (dp_upL hq6 _ _ nj (dp_upL hp5 _ _ nj pj)) .nil)
          · exact ((e04.trans e5).write hp).write (e2.back hq)
        · show mu p _ < mu p H'
          rw [mu_eq hp', mu_eq (xs := ys.eraseIdx j) (by rw [upd_ne npq, upd_same]), List.length_eraseIdx_of_lt hj]
          omega
  · obtain ⟨u1, h1, h2, h3⟩ := h
    refine ⟨u1, h1, h2, fun z hz => ?_⟩
    obtain ⟨d, e, a1, a2, a3, a4, b, a5, a6⟩ := h3 z hz
    exact ⟨d, e, a1, a2, a3, a4, b, a5, m _ _ a6⟩
end
end G

set_option maxHeartbeats 400000
/-! Drawn frames. -/
namespace G
open PySem PySem.Spec PyProof.Rows L2 Tp
structure Plan where
  w : Int
  inn : List Pr
  out : List Pr
def planD (p : Plan) : PyData := .tuple [.int p.w, .tuple (p.inn.map pairD), .tuple (p.out.map pairD)]
def sideP (w : Nat) : List Pr := (gridP w w).filter fun p => decide (p.1 < p.2)
/-- some of the pairs, ascending -/
def Plan.Ok (p : Plan) : Prop := ∃ w : Nat, p.w = (w : Int) ∧ 1 ≤ w ∧ w ≤ 3 ∧ p.inn.Sublist (sideP w) ∧ p.out.Sublist (gridP w w)
def kn1 : List Plan := [⟨1, [], [(0, 0)]⟩, ⟨1, [], []⟩, ⟨2, [(0, 1)], [(0, 0), (1, 1)]⟩, ⟨2, [], [(0, 1), (1, 0)]⟩]
def kn2 : List Plan := [⟨2, [(0, 1)], [(0, 0), (0, 1), (1, 0), (1, 1)]⟩, ⟨2, [], [(0, 0), (1, 1)]⟩, ⟨2, [(0, 1)], [(1, 0)]⟩]
def kn3 : List Plan := [⟨3, [(0, 1), (1, 2)], [(0, 0), (1, 1), (2, 2)]⟩, ⟨3, [], [(0, 1), (1, 2), (2, 0)]⟩]
def kn4 : List Plan := [⟨3, [(0, 1), (0, 2), (1, 2)], gridP 3 3⟩]
def kn5 : List Plan := [⟨3, [(0, 1), (0, 2), (1, 2)], [(0, 0), (2, 1), (2, 2)]⟩]
def known : List Plan := kn1 ++ kn2 ++ kn3 ++ kn4 ++ kn5
def okB (p : Plan) : Bool := [1, 2, 3].any fun (w : Nat) => decide (p.w = (w : Int)) && p.inn.isSublist (sideP w) && p.out.isSublist (gridP w w)
theorem ok_of {p : Plan} (h : okB p = true) : p.Ok := by
  obtain ⟨w, hw, h⟩ := List.any_eq_true.mp h
  simp only [Bool.and_eq_true, decide_eq_true_eq, List.isSublist_iff_sublist] at h
  refine ⟨w, h.1.1, ?_, ?_, h.1.2, h.2⟩ <;> (rcases hw with _ | ⟨_, _ | ⟨_, _ | ⟨_, h⟩⟩⟩ <;> first | omega | cases h)
theorem known_ok : ∀ p ∈ known, p.Ok := fun p hp => ok_of (List.all_eq_true.mp (show known.all okB = true by decide +kernel) p hp)
theorem noL_plan (p : Plan) : noL (planD p) = true := by
  have h1 := noL_pairs p.inn
  have h2 := noL_pairs p.out
  simp [planD, noL, noL.noLs, h1, h2]
abbrev teP (p : Pr) : TE := tt [c p.1, c p.2]
abbrev teT (w : Int) (a b : List Pr) : TE := tt [c w, tt (a.map teP), tt (b.map teP)]
abbrev tePl (p : Plan) : TE := teT p.w p.inn p.out
section
variable {K : PySem.W.Frag} {σ : L2.St} {H : Hp} {D : Vw}
theorem ems_map {α : Type} {f : α → TE} {d : α → PyData} {l : List α} (h : ∀ a ∈ l, EvM (f a) σ H (PP K D (d a))) : EvMs (tas (l.map f)) σ H ((l.map d).map (PP K D)) := by
  induction l with
  | nil => exact ems_nil
  | cons a l ih => exact pps (h a List.mem_cons_self) (ih fun b hb => h b (List.mem_cons_of_mem _ hb))
theorem em_teP (hD : On D H) (p : Pr) : EvM (teP p) σ H (PP K D (pairD p)) := em_pair hD em_ci em_ci
theorem em_pairs (hD : On D H) {l : List Pr} (hl : l.length ≤ 1000) : EvM (tt (l.map teP)) σ H (PP K D (.tuple (l.map pairD))) := em_PPtup hD (ems_map fun p _ => em_teP hD p) (by rw [List.length_map]; exact hl)
theorem em_plan (hD : On D H) {p : Plan} (h1 : p.inn.length ≤ 1000) (h2 : p.out.length ≤ 1000) : EvM (tePl p) σ H (PP K D (planD p)) :=
  em_PPtup hD (pps em_PPi (pps (em_pairs hD h1) (pps (em_pairs hD h2) pp0))) (by show 3 ≤ 1000; decide)
theorem ems_plans (hD : On D H) {l : List Plan} (h : ∀ p ∈ l, p.inn.length ≤ 1000 ∧ p.out.length ≤ 1000) : EvMs (tas (l.map tePl)) σ H ((l.map planD).map (PP K D)) := ems_map fun p hp => em_plan hD (h p hp).1 (h p hp).2
end
abbrev NKnown : List Str := ["found"]
abbrev tGridC (K : PySem.W.Frag) (a b : TE) : TE := tCall (spGrid K) [] E0 (tCons a (tCons b tNil))
def t_known (K : PySem.W.Frag) : TS :=
  tSeq (tAsg (tLst (tas (kn1.map tePl))) (gName 0))
  (tSeq (tAsg (tOp rCat (tVar 0) (tLst (tas (kn2.map tePl)))) (gName 0))
  (tSeq (tAsg (tOp rCat (tVar 0) (tLst (tas (kn3.map tePl)))) (gName 0))
  (tSeq (tDrop (tBM K "list" rAppend (tVar 0) (tCons (tt [c 3, tt ([((0 : Int), (1 : Int)), (0, 2), (1, 2)].map teP), tCB (rTupOf K) (tCons (tGridC K (c 3) (c 3)) tNil)]) tNil)))
  (tRet (tOp rCat (tVar 0) (tLst (tas (kn5.map tePl))))))))
def spKnown (K : PySem.W.Frag) : Sp := fun vs H Q _ => vs = [] ∧ ∀ v H', Gr H H' → PF K (known.map planD) v H' → Q v H'
section
variable {K : PySem.W.Frag} {σ : L2.St} {H : Hp}
theorem em_grid {ta tb : TE} {m n : Nat} (hm : m ≤ 4) (hn : n ≤ 4) (ha : EvM ta σ H fun v _ => v = .int (m : Int)) (hb : EvM tb σ H fun v _ => v = .int (n : Int)) : EvM (tGridC K ta tb) σ H (PF K ((gridP m n).map pairD)) := fun H1 e Q q =>
  ha H1 e _ fun v H2 e2 ev => hb H2 (e.trans e2) _ fun u H3 e3 eu => ⟨m, n, by rw [ev, eu]; rfl, hm, hn, fun w H' e4 pf => q w H' ((e2.trans e3).trans e4) pf⟩
theorem small {l : List Plan} (h : (l.all fun p => decide (p.inn.length ≤ 1000) && decide (p.out.length ≤ 1000)) = true) : ∀ p ∈ l, p.inn.length ≤ 1000 ∧ p.out.length ≤ 1000 := fun p hp => by
  have q := List.all_eq_true.mp h p hp
  simpa using q
theorem em_plans {l : List Plan} (h : ∀ p ∈ l, p.inn.length ≤ 1000 ∧ p.out.length ≤ 1000) (hl : l.length ≤ 1000) : EvM (tLst (tas (l.map tePl))) σ H (PF K (l.map planD)) := em_PFl (ems_plans On.none h) (by rw [List.length_map]; exact hl)
/-- a list of our own, new since H0 -/
def PFn (K : PySem.W.Frag) (H0 : Hp) (ds : List PyData) : VP := fun v H => ∃ p xs, v = .ref p ∧ H0 p = none ∧ H p = some (.lst xs) ∧ DpAll K (delH H p) xs ds
theorem PFn.pf {H0 : Hp} {ds : List PyData} {v : V} (h : PFn K H0 ds v H) : PF K ds v H := by
  obtain ⟨p, xs, h1, _, h2, h3⟩ := h
  exact ⟨p, xs, h1, h2, h3⟩
theorem grows_PFn {H0 : Hp} {ds : List PyData} : Grows (PFn K H0 ds) := fun _ _ _ e ⟨p, xs, ev, h0, hp, ha⟩ => ⟨p, xs, ev, h0, e.lst hp, dpAll_gr (gr_dels e) _ _ ha⟩
theorem em_catN {ta tb : TE} {ds es : List PyData} (ha : EvM ta σ H (PF K ds)) (hb : EvM tb σ H (PF K es)) (hl : ds.length + es.length ≤ 100000) : EvM (tOp rCat ta tb) σ H (PFn K H (ds ++ es)) := fun H1 e Q q =>
  ha H1 e _ fun v H2 e2 ⟨p, xs, ev, hp, hx⟩ => hb H2 (e.trans e2) _ fun u H3 e3 ⟨r, ys, eu, hr, hy⟩ =>
    ⟨p, r, xs, ys, ev, eu, e3.lst hp, hr, by rw [dpAll_len hx, dpAll_len hy]; exact Nat.le_trans hl (by decide), fun z hz => by
      obtain ⟨p', xs', h1, h2, h3⟩ := pf_new hz (dpAll_app (dpAll_gr (gr_del.trans e3) _ _ hx) (dpAll_gr gr_del _ _ hy))
      cases h1
      exact q _ _ ((e2.trans e3).trans (Gr.new hz)) ⟨z, xs', rfl, ((e.trans e2).trans e3).back hz, h2, h3⟩⟩
/-- found.append(..) -/
theorem q_append {te : TE} {tz : TS} {E : Ends} {i : Nat} {H0 : Hp} {ds : List PyData} {d : PyData} {v : V} (e0 : Gr H0 H) (hi : σ[i]? = some (some v)) (hv : PFn K H0 ds v H) (hn : noL.noLs ds = true) (hd : noL d = true) (hl : ds.length ≤ 1000) (h : EvM te σ H (PP K none d))
    (k : ∀ H1, Gr H0 H1 → (∀ {a : Addr} {t' : HO}, v ≠ .ref a → H a = some t' → ¬ IsT t' → H1 a = some t') → PFn K H0 (ds ++ [d]) v H1 → tz E σ H1) : tSeq (tDrop (tBM K "list" rAppend (tVar i) (tCons te tNil))) tz E σ H := by
  obtain ⟨p, xs, rfl, h0, hp, hx⟩ := hv
  refine ⟨_, hi, .inl ⟨rfl, _, SqL.of hp⟩, h H (Gr.refl H) _ fun u H1 e1 pu => ⟨p, xs, u, rfl, rfl, e1.lst hp, ?_, ?_⟩⟩
  · rw [dpAll_len hx]
    exact Nat.lt_of_le_of_lt hl (by decide)
  · have hp1 := e1.lst hp
    refine k _ ((e0.trans e1).write h0) (fun {a t'} na ha nt => ?_) ⟨p, _, rfl, h0, upd_same, ?_⟩
    · rw [upd_ne (fun z => na (by rw [z]))]
      exact e1.at ha nt
    · rw [del_upd]
      exact dpAll_app (dpAll_gr (gr_dels e1) _ _ hx) (.cons (dp_delL hp1 _ _ hd pu) .nil)
theorem noLs_app {a b : List PyData} (h1 : noL.noLs a = true) (h2 : noL.noLs b = true) : noL.noLs (a ++ b) = true := noLs_all.mpr fun d hd => (List.mem_append.mp hd).elim (noLs_all.mp h1 d) (noLs_all.mp h2 d)
theorem noL_plans (l : List Plan) : noL.noLs (l.map planD) = true := noLs_all.mpr fun d hd => by
  obtain ⟨p, _, rfl⟩ := List.mem_map.mp hd
  exact noL_plan p
theorem pure_known (vs : List V) (H : Hp) (Q : VK) (E : XK) (h : spKnown K vs H Q E) : t_known K { nx := fun _ H' => Q .non H', rt := Q } (start NKnown vs) H := by
  obtain ⟨rfl, k⟩ := h
  unfold t_known
  refine q_asg (P := PF K (kn1.map planD)) (em_plans (small (by decide)) (by decide)) fun v1 H1 e1 p1 => ?_
  refine q_asg (P := PF K (kn1.map planD ++ kn2.map planD)) (em_cat (em_vP grows_PF rfl p1) (em_plans (small (by decide)) (by decide)) (by decide)) fun v2 H2 e2 p2 => ?_
  have e02 := e1.trans e2
  refine q_asg (P := PFn K H2 ((kn1.map planD ++ kn2.map planD) ++ kn3.map planD)) (em_catN (em_vP grows_PF rfl p2) (em_plans (small (by decide)) (by decide)) (by decide)) fun v3 H3 e3 p3 => ?_
  refine q_append (H0 := H2) (d := planD ⟨3, [(0, 1), (0, 2), (1, 2)], gridP 3 3⟩) e3 rfl p3 (noLs_app (noLs_app (noL_plans _) (noL_plans _)) (noL_plans _)) (noL_plan _) (by decide) ?_ fun H4 e4 _ p4 => ?_
  · refine em_PPtup On.none (pps em_PPi (pps (em_pairs On.none (by decide)) (pps ?_ pp0))) (by show 3 ≤ 1000; decide)
    exact em_tupOf On.none (em_imp (em_grid (m := 3) (n := 3) (by decide) (by decide) em_ci em_ci) fun _ _ _ h => pf_pp h)
  · refine q_ret (em_cat (em_vP grows_PF rfl p4.pf) (em_plans (l := kn5) (small (by decide)) (by decide)) (by decide)) fun v5 H5 e5 p5 => k v5 H5 ((e02.trans e4).trans e5) ?_
    have z : known.map planD = (((kn1.map planD ++ kn2.map planD) ++ kn3.map planD) ++ [planD ⟨3, [(0, 1), (0, 2), (1, 2)], gridP 3 3⟩]) ++ kn5.map planD := by
      unfold known
      rw [List.map_append, List.map_append, List.map_append, List.map_append]
      rfl
    rw [z]
    exact p5
end
end G

set_option maxHeartbeats 400000
namespace G
open PySem PySem.Spec PyProof.Rows L2 Tp
abbrev rLe : R2 := rI0 fun i j => .bl (decide (i ≤ j))
abbrev tPickC (a b : TE) : TE := tCall spPick [] E0 (tCons a (tCons b tNil))
abbrev tOneC (K : PySem.W.Frag) (a b : TE) : TE := tCall (spOne K) [] E0 (tCons a (tCons b tNil))
abbrev NDrawn : List Str := ["tape", "most", "some", "wide", "across", "sidelong", "plan", "pair"]
abbrev tCoin : TT := tTest (tOp rEq (tPickC (tVar 0) (c 2)) (c 0))
abbrev tAtC (K : PySem.W.Frag) (i : Nat) (j : Int) : TE := tOp (rIxT K) (tVar i) (c j)
def t_drawn (K : PySem.W.Frag) : TS :=
  tSeq (tAsg (tLc (iList K (tCall (spKnown K) [] E0 tNil)) (gName 6) (tTest (tOp rLe (tAtC K 6 0) (tVar 1))) (tVar 6) [6]) (gName 2))
  (tSeq (tIfS (tTest (tOp rGt (tPickC (tVar 0) (c 3)) (c 0))) (tRet (tOneC K (tVar 0) (tVar 2))) tNext)
  (tSeq (tAsg (tOp Tp.rAdd (c 1) (tPickC (tVar 0) (tVar 1))) (gName 3))
  (tSeq (tAsg (tLc (iList K (tGridC K (tVar 3) (tVar 3))) (gName 7) tCoin (tVar 7) [7]) (gName 4))
  (tSeq (tAsg (tLc (iList K (tGridC K (tVar 3) (tVar 3))) (gName 7) (tTest (tOp rLt (tAtC K 7 0) (tAtC K 7 1))) (tVar 7) [7]) (gName 5))
  (tRet (tTup (tCons (tVar 3) (tCons (tCB (rTupOf K) (tCons (tLc (iList K (tVar 5)) (gName 7) tCoin (tVar 7) [7]) tNil)) (tCons (tCB (rTupOf K) (tCons (tVar 4) tNil)) tNil)))))))))
def spDrawn (K : PySem.W.Frag) : Sp := fun vs H Q _ => ∃ (t : Addr) (most : Nat), vs = [.ref t, .int (most : Int)] ∧ Tape H t ∧ 1 ≤ most ∧ most ≤ 3 ∧
  ∀ v p H', Gr H H' → p.Ok → p.w ≤ (most : Int) → Dp K H' v (planD p) → Q v H'
section
variable {K : PySem.W.Frag} {σ : L2.St} {H : Hp}
theorem em_ii {f : Int → Int → V} {A B : Int → Prop} {ta tb : TE} (ha : EvM ta σ H fun v _ => ∃ i, A i ∧ v = .int i) (hb : EvM tb σ H fun v _ => ∃ j, B j ∧ v = .int j) : EvM (tOp (rI0 f) ta tb) σ H (fun v _ => ∃ i j, A i ∧ B j ∧ v = f i j) := fun H1 e Q q =>
  ha H1 e _ fun v H2 e2 ⟨i, hi, ev⟩ => hb H2 (e.trans e2) _ fun u H3 e3 ⟨j, hj, eu⟩ => ⟨i, j, ev, eu, q _ H3 (e2.trans e3) ⟨i, j, hi, hj, rfl⟩⟩
theorem em_pickI {i : Nat} {t : Addr} {n : Int} {tb : TE} (hi : σ[i]? = some (some (.ref t))) (hT : Tape H t) (hb : EvM tb σ H fun v _ => v = .int n) (h0 : 0 < n) (h1 : n < 2 ^ 30) : EvM (tPickC (tVar i) tb) σ H (fun v _ => ∃ r, (0 ≤ r ∧ r < n) ∧ v = .int r) :=
  em_imp (em_pick hi hT hb h0 h1) fun v _ _ ⟨r, a, b, e⟩ => ⟨r, ⟨a, b⟩, e⟩
theorem em_coin {t : Addr} (hi : σ[0]? = some (some (.ref t))) (hT : Tape H t) : EvT tCoin σ H (fun _ => True) := et_testAny fun H1 e Q q =>
  em_pickI hi hT em_ci (by decide) (by decide) H1 e _ fun v H2 e2 ⟨r, _, ev⟩ => ⟨by rw [ev]; rfl, q _ H2 e2 ⟨_, rfl⟩⟩
theorem tape_del {D : Addr} {t : Addr} {H1 : Hp} (e : Gr H (delH H1 D)) (hT : Tape H t) : Tape H1 t := gr_del.tape_at (e.tape_at hT)
theorem depth_pairs : ∀ l : List Pr, PyData.depthAll (l.map pairD) ≤ 1
  | [] => by simp [PyData.depthAll]
  | p :: l => by
    have q := depth_pairs l
    simp only [List.map_cons, PyData.depthAll]
    simp [pairD, PyData.depth, PyData.depthAll]
    omega
theorem item_plan {p : Plan} : item (planD p) = true := by
  have h1 := item_lay (items_pairs p.inn)
  have h2 := item_lay (items_pairs p.out)
  have h3 := depth_pairs p.inn
  have h4 := depth_pairs p.out
  unfold item
  rw [noL_plan]
  unfold planD
  simp only [PyData.canLay0, PyData.canLayAll0, PyData.depth, PyData.depthAll, h1.1, h2.1, Bool.true_and, Bool.and_self, decide_eq_true_eq]
  apply decide_eq_true
  omega
def wOf : PyData → Int
  | .tuple (.int w :: _) => w
  | _ => 0
def ltB : PyData → Bool
  | .tuple [.int a, .int b] => decide (a < b)
  | _ => false
theorem filter_map {α β : Type} {f : α → β} {p : β → Bool} {l : List α} : (l.map f).filter p = (l.filter fun a => p (f a)).map f := by
  induction l with
  | nil => rfl
  | cons a l ih =>
    simp only [List.map_cons, List.filter_cons, ih]
    split <;> simp
theorem em_tupOfX {te : TE} {I : List PyData → Prop} (h : EvM te σ H (fun v H' => ∃ es, I es ∧ PF K es v H')) : EvM (tCB (rTupOf K) (tCons te tNil)) σ H (fun v H' => ∃ es, I es ∧ PP K none (.tuple es) v H') := fun H1 e Q q =>
  h H1 e _ fun v H2 e2 ⟨es, he, pf⟩ => by
    have pv := pf_pp pf
    cases pv with
    | lst hs hx => exact ⟨_, _, rfl, .inl ⟨hs, fun l hl => q _ _ (e2.trans (Gr.new hl)) ⟨es, he, .tup (Evl.st_of upd_same) (dpAll_gr (Gr.new hl) _ _ hx)⟩⟩⟩
theorem pure_drawn (vs : List V) (H : Hp) (Q : VK) (E : XK) (h : spDrawn K vs H Q E) : t_drawn K { nx := fun _ H' => Q .non H', rt := Q } (start NDrawn vs) H := by
  obtain ⟨t, most, rfl, hT, hm1, hm3, k⟩ := h
  unfold t_drawn
  have known_em : ∀ {σ : L2.St} {H : Hp}, EvM (tCall (spKnown K) [] E0 tNil) σ H (PP K none (.list (known.map planD))) := fun H1 e Q q => ⟨rfl, fun v H' e' pf => q v H' e' (pf_pp pf)⟩
  refine q_asg (P := PF K (((known.map planD).filter fun d => decide (wOf d ≤ (most : Int))).map id)) (em_filtL (fun d => decide (wOf d ≤ (most : Int))) id (by rw [List.length_map]; decide) known_em fun D d x H1 hD e hd px => ?_) fun v1 H1 e1 p1 => ?_
  · refine ⟨_, fun Q q => q, rfl, ?_, fun _ => em_vP (P := PP K (some D) d) grows_PP rfl px⟩
    obtain ⟨p, _, rfl⟩ := List.mem_map.mp hd
    exact et_test (em_i0 (f := fun i j => .bl (decide (i ≤ j))) (em_int (em_ixT (D := some D) (ds := [.int p.w, .tuple (p.inn.map pairD), .tuple (p.out.map pairD)]) (i := 0) (em_vP grows_PP rfl px) (em_c fun _ _ => rfl) rfl)) (em_var rfl fun _ _ => rfl))
  rw [List.map_id] at p1
  have hT1 := e1.tape_at hT
  refine q_ifAny (et_testAny (em_imp (em_ii (A := fun r => 0 ≤ r ∧ r < 3) (B := fun j => j = 0) (f := fun i j => .bl (decide (j < i))) (em_pickI rfl hT1 em_ci (by decide) (by decide)) (em_c fun _ _ => ⟨0, rfl, rfl⟩)) fun v _ _ ⟨i, j, _, _, e⟩ => ⟨_, e⟩)) (fun H2 e2 => ?_) fun H2 e2 => ?_
  · have e02 := e1.trans e2
    refine q_ret (em_one rfl (e02.tape_at hT) (em_vP grows_PF rfl (grows_PF _ _ _ e2 p1)) ?_ ?_) fun v H3 e3 ⟨d, hd, hv⟩ => ?_
    · intro z
      have z2 : planD ⟨1, [], []⟩ ∈ (known.map planD).filter fun d => decide (wOf d ≤ (most : Int)) := List.mem_filter.mpr ⟨List.mem_map.mpr ⟨_, by simp [known, kn1], rfl⟩, by show decide ((1 : Int) ≤ most) = true; rw [decide_eq_true_eq]; omega⟩
      rw [z] at z2
      cases z2
    · exact Nat.lt_of_le_of_lt (List.length_filter_le _ _) (by rw [List.length_map]; decide)
    · obtain ⟨hd1, hd2⟩ := List.mem_filter.mp hd
      obtain ⟨p, hp, rfl⟩ := List.mem_map.mp hd1
      exact k v p H3 (e02.trans e3) (known_ok p hp) (of_decide_eq_true hd2) hv
  have e02 := e1.trans e2
  have hT2 := e02.tape_at hT
  refine q_asg (P := fun v _ => ∃ w : Nat, 1 ≤ w ∧ w ≤ most ∧ v = .int (w : Int)) (em_imp (em_ii (A := fun i => i = 1) (B := fun j => 0 ≤ j ∧ j < (most : Int)) (f := fun i j => .int (i + j)) (em_c fun _ _ => ⟨1, rfl, rfl⟩) (em_pickI rfl hT2 (em_var rfl fun _ _ => rfl) (by omega) (by omega))) fun v _ _ ⟨i, j, hi, hj, e⟩ => ⟨(i + j).toNat, by omega, by omega, by rw [e]; congr 1; omega⟩) fun v3 H3 e3 p3 => ?_
  obtain ⟨w, hw1, hwm, rfl⟩ := p3
  have hw3 : w ≤ 3 := by omega
  have hT3 := e3.tape_at hT2
  have gridL : ((gridP w w).map pairD).length ≤ 1000 := by
    rw [List.length_map, gridP_len]
    exact Nat.le_trans (Nat.mul_le_mul hw3 hw3) (by decide)
  have grid_em : ∀ {σ : L2.St} {H : Hp}, σ[3]? = some (some (.int (w : Int))) → EvM (tGridC K (tVar 3) (tVar 3)) σ H (PP K none (.list ((gridP w w).map pairD))) := fun hs => em_imp (em_grid (by omega) (by omega) (em_var hs fun _ _ => rfl) (em_var hs fun _ _ => rfl)) fun _ _ _ h => pf_pp h
  refine q_asg (P := fun v H' => ∃ es, es.Sublist ((gridP w w).map pairD) ∧ PF K es v H') (em_someL gridL (grid_em rfl) fun D d x H1 hD e hd px => by
    refine ⟨_, fun Q q => q, ?_, ?_, ?_⟩
    · rfl
    · exact em_coin rfl (tape_del e hT3)
    · exact em_vP grows_PP rfl px) fun v4 H4 e4 p4 => ?_
  refine q_asg (P := PF K ((sideP w).map pairD)) ?_ fun v5 H5 e5 p5 => ?_
  · have z := em_filtL (K := K) (σ := [some (.ref t), some (.int (most : Int)), some v1, some (.int (w : Int)), some v4, none, none, none]) (H := H4) (vs := [7]) (g := gName 7) (tt := tTest (tOp rLt (tAtC K 7 0) (tAtC K 7 1))) (te := tVar 7) ltB id gridL (grid_em (σ := [some (.ref t), some (.int (most : Int)), some v1, some (.int (w : Int)), some v4, none, none, none]) rfl) (fun D d x H1 hD e hd px => ?_)
    · rw [List.map_id, filter_map] at z
      exact z
    · refine ⟨_, fun Q q => q, rfl, ?_, fun _ => em_vP (P := PP K (some D) d) grows_PP rfl px⟩
      obtain ⟨p, _, rfl⟩ := List.mem_map.mp hd
      exact et_test (em_i0 (f := fun i j => .bl (decide (i < j))) (em_int (em_ixT (D := some D) (ds := [.int p.1, .int p.2]) (i := 0) (em_vP grows_PP rfl px) (em_c fun _ _ => rfl) rfl)) (em_int (em_ixT (D := some D) (ds := [.int p.1, .int p.2]) (i := 1) (em_vP grows_PP rfl px) (em_c fun _ _ => rfl) rfl)))
  obtain ⟨es4, sub4, pf4⟩ := p4
  have e35 := e4.trans e5
  have hT5 := e35.tape_at hT3
  have sideL : ((sideP w).map pairD).length ≤ 1000 := by
    rw [List.length_map] at gridL ⊢
    exact Nat.le_trans (List.length_filter_le _ _) gridL
  refine q_ret (P := fun v H' => ∃ p : Plan, p.Ok ∧ p.w ≤ (most : Int) ∧ Dp K H' v (planD p)) (em_tup (Ps := [fun v _ => v = .int (w : Int), fun v H' => ∃ es, es.Sublist ((sideP w).map pairD) ∧ PP K none (.tuple es) v H', PP K none (.tuple es4)]) ?_ ?_ (by show 3 ≤ 1000; decide) fun p vs H' e al hp _ => ?_) fun v H6 e6 ⟨p, h1, h2, h3⟩ => k v p H6 (((e02.trans e3).trans e35).trans e6) h1 h2 h3
  · exact .cons grows_eq (.cons (fun _ _ _ e ⟨es, h1, h2⟩ => ⟨es, h1, grows_PP _ _ _ e h2⟩) (.cons grows_PP .nil))
  · refine ems_cons grows_eq (em_var rfl fun _ _ => rfl) (ems_cons (fun _ _ _ e ⟨es, h1, h2⟩ => ⟨es, h1, grows_PP _ _ _ e h2⟩) ?_ (ems_cons grows_PP ?_ ems_nil))
    · refine em_tupOfX (em_someL sideL (em_vP grows_PP rfl (pf_pp p5)) fun D d x H1 hD e hd px => ?_)
      refine ⟨_, fun Q q => q, ?_, ?_, ?_⟩
      · rfl
      · exact em_coin rfl (tape_del e hT5)
      · exact em_vP grows_PP rfl px
    · exact em_tupOf On.none (em_vP grows_PP rfl (pf_pp (grows_PF _ _ _ e5 pf4)))
  · cases al with
    | cons x1 al =>
      cases al with
      | cons x2 al =>
        cases al with
        | cons x3 al =>
          cases al
          obtain ⟨es5, sub5, pp5⟩ := x2
          obtain ⟨inn, si, rfl⟩ := List.sublist_map_iff.mp sub5
          obtain ⟨out, so, rfl⟩ := List.sublist_map_iff.mp sub4
          subst x1
          exact ⟨⟨w, inn, out⟩, ⟨w, rfl, hw1, hw3, si, so⟩, by show (w : Int) ≤ most; omega, .tup (Evl.st_of hp) (.cons (.int _) (.cons pp5 (.cons x3 .nil)))⟩
end
end G

set_option maxHeartbeats 4000000
/-! A set made of a tuple of tuples of ints; how many it has. -/
namespace G
open PySem PySem.Spec PyProof.Rows L2 Tp
/-- a set without items -/
abbrev eSet (w : World) : Obj :=
  { cls := .type "set", dict := none
    data := .set #[] 0 (.fresh 0 0 (!w.params.followText "set-order")) }
section
variable {P : Program} {w : World} {A : Around} {E : Value → Shared → Prop} {s : Shared}
set_option maxHeartbeats 8000000 in
theorem tup_into_set {l : Addr} {its : Array Value} (ks : List (Addr × List Int)) {Q : Value → Shared → Prop} (calm : A.handled = none) (tl : s.heap.IsTuple l its)
    (eits : its.toList = ks.map fun p => Value.ref p.1) (tk : ∀ p ∈ ks, L2.IsT P w s.heap p.2 p.1) (few : ks.length < 64) (room : A.units + 3 < cLine)
    (fin : ∀ (h' : Heap) (n : Nat) L es ep t, SetTR P w h' s.heap.objs.size L es ep t → Got ks ks.length L → (∀ b o, s.heap.get? b = some o → h'.get? b = some o) →
      Q (.ref s.heap.objs.size) { s with heap := h', toks := n }) :
    wpAny (model P w) A (call (.type "set") [.ref l]) Q E s := by
  have esz : its.size = ks.length := by
    have z := congrArg List.length eits
    simpa using z
  obtain ⟨c, rest, hm⟩ := F.called_set.mro
  have g1 := F.called_set.made
  have g2 := F.called_set.sub
  refine wpAny_call
    (codeAny_of_tree ?_)
  show wpAny _ _ (callAny (.type "set") _) _ _ _
  refine wpAny_pure ⟨Code.quiet_builtin _
    (by decide +kernel), codeAny_builtin
      F.entry_type_call ?_⟩
  rw [Around.under_plain
    (weight_type_call_type "set" [.ref l] []) rfl]
  have g3 := F.called_set.notType
  have g4 := F.called_set.canCreate
  have g5 := F.typeCall_set_1 (.ref l)
  repeat
    any_goals
      first
      | assumption
      | wp_step
  refine codeAny_mono (code_set_led1 (.ref l) (E := E)
    (Q₁ := fun o s1 => o = .ref s.heap.objs.size ∧ s1 = { s with heap := s.heap.push (eSet w) }) ⟨rfl, rfl⟩) fun r s1 hr => ?_
  cases r with
  | error e => exact hr
  | ok fl =>
    cases fl with
    | ret ob =>
      obtain ⟨rfl, rfl⟩ := hr
      have at0 : (s.heap.push (eSet w)).get? s.heap.objs.size = some (eSet w) := Heap.get?_push_size _ rfl
      have ty0 : Shared.TypeIs { s with heap := s.heap.push (eSet w) } (.ref s.heap.objs.size) "set" := ⟨_, at0, rfl⟩
      have g6 := F.called_set.init.lookup
      have g7 := F.called_set.init.bind (.ref s.heap.objs.size)
      repeat
        any_goals
          first
          | assumption
          | wp_step
      refine codeAny_mono (codeAny_call_builtin
        (R := wants (fun r s2 => r = .none ∧ ∃ h' n L es ep t, s2 = { s with heap := h', toks := n } ∧ SetTR P w h' s.heap.objs.size L es ep t ∧ Got ks ks.length L ∧ (∀ b o, s.heap.get? b = some o → h'.get? b = some o)) E)
        F.called_set.init.plain F.entry_set_init (check_set_init_1 ty0 ?_)) fun r2 s2 hr2 => ?_
      · obtain ⟨ol, hol, hcl, nl, hdl⟩ := tl
        obtain ⟨ocls, odict, odata, oslots⟩ := ol
        simp only at hcl hdl
        subst hcl
        subst hdl
        have lS : l < s.heap.objs.size := Heap.lt_size hol
        have at1 : (s.heap.push (eSet w)).get? l = some { cls := .type "tuple", dict := odict, data := .seq its nl, slots := oslots } := Heap.get?_push_of_some _ hol
        have g8 := F.sub_tuple_set
        have g9 := F.sub_tuple_frozenset
        have g10 : (Value.type "tuple" == Value.type "dict") = false := by decide
        have tl1 : (s.heap.push (eSet w)).IsTuple l its := ⟨_, at1, rfl, nl, rfl⟩
        unfold Builtin.«set.__init__»
        unfold noKeywords
        unfold Builtin.Frozenset.updateFrom
        generalize hPI : pyIter = PI
        wp_walk
        subst hPI
        refine wpAny_pyIter_tuple tl1 ?_
        refine wpAny_bind
          (wpAny_runValue ?_)
        have calm3 : A.in1.in1.in1.handled = none := by simp [calm]
        have psz : (s.heap.push (eSet w)).objs.size = s.heap.objs.size + 1 := Heap.size_push ..
        have ne1 : l ≠ (s.heap.push (eSet w)).objs.size := by
          rw [psz]
          exact Nat.ne_of_lt (Nat.lt_succ_of_lt lS)
        have out1 : s.heap.objs.size ∉ [(s.heap.push (eSet w)).objs.size, l] := by
          rw [psz]
          intro z
          rcases List.mem_cons.mp z with z | z
          · exact absurd z (Nat.ne_of_lt (Nat.lt_succ_self _))
          · exact absurd (List.mem_singleton.mp z) (Nat.ne_of_gt lS)
        have item_at : ∀ (i : Nat) (v : Value), its[i]? = some v → ∃ p, ks[i]? = some p ∧ v = .ref p.1 := fun i v hv => by
          have z : its.toList[i]? = some v := by rw [Array.getElem?_toList]; exact hv
          rw [eits, List.getElem?_map] at z
          obtain ⟨p, hp, rfl⟩ := Option.map_eq_some_iff.mp z
          exact ⟨p, hp, rfl⟩
        have gone : ∀ b, s.heap.objs.size ≤ b → s.heap.get? b = none := fun b hb => by
          cases z : s.heap.get? b with
          | none => rfl
          | some o =>
            exact absurd (Nat.lt_of_lt_of_le (Heap.lt_size z) hb) (Nat.lt_irrefl _)
        refine set_update_tups ((Walks.tuple calm3 _ l ne1 its).toS) s.heap.objs.size out1 ks esz few item_at s.heap tk (gone _ (Nat.le_refl _)) (fun b hb => gone b ?_) room (its.size - 0) 0 _ (by omega) (Nat.zero_le _)
          ⟨⟨_, Heap.get?_push_size _ rfl, rfl, rfl⟩, tl1.push _⟩ (fun b o e => Heap.get?_push_of_some _ (Heap.get?_push_of_some _ e)) ?start ?stop
        · rw [List.mem_singleton.mp hb, psz]
          exact Nat.le_succ _
        case start =>
          exact ⟨[], #[], 0, _, setTR_fresh (Heap.get?_push_of_some _ at0), Got.zero ks⟩
        case stop =>
          intro s3 L es ep t hmv hS hg hkp
          obtain ⟨h3, gs, dr, n3, os3⟩ := s3
          obtain rfl : gs = s.gens := hmv.gens
          obtain rfl : dr = s.drawn := hmv.drawn
          obtain rfl : os3 = s.os := hmv.os
          show wpAny _ _ _ _ _ _
          refine wpAny_pure ?_
          show wpAny _ _ (ret Value.none) _ _ _
          rw [esz] at hg
          exact wpAny_pure ⟨rfl, h3, n3, L, es, ep, t, rfl, hS, hg, hkp⟩
      · cases r2 with
        | error e => exact hr2
        | ok f2 =>
          cases f2 with
          | ret r =>
            obtain ⟨rfl, h3, n3, L, es, ep, t, rfl, hS, hg, hkp⟩ := hr2
            repeat
              any_goals
                first
                | assumption
                | wp_step
            exact fin _ _ _ _ _ _ hS hg hkp
          | _ => exact hr2.elim
    | _ => exact hr.elim
end
end G

set_option maxHeartbeats 4000000
/-! len(set(xs)), sorted(xs): xs a list or a tuple of tuples of ints. -/
namespace G
open PySem PySem.Spec PyProof.Rows L2 Tp
theorem nodup_sub {α : Type} [BEq α] [LawfulBEq α] : ∀ {l m : List α}, l.Nodup → (∀ x ∈ l, x ∈ m) → ∃ r, m.Perm (l ++ r)
  | [], m, _, _ => ⟨m, .refl _⟩
  | x :: l, m, n, s => by
    obtain ⟨n1, n2⟩ := List.nodup_cons.mp n
    have hx := s x List.mem_cons_self
    obtain ⟨r, hr⟩ := nodup_sub (l := l) (m := m.erase x) n2 fun y hy => (List.mem_erase_of_ne (fun (e : y = x) => n1 (e ▸ hy))).mpr (s y (List.mem_cons_of_mem _ hy))
    exact ⟨r, (List.perm_cons_erase hx).trans (hr.cons x)⟩
theorem got_len {ks L : List (Addr × List Int)} (g : Got ks ks.length L) (nd : (L.map (·.2)).Nodup) : L.length ≤ ks.length ∧ (L.length = ks.length ↔ (ks.map (·.2)).Nodup) := by
  have sub : ∀ x ∈ L.map (·.2), x ∈ ks.map (·.2) := fun x hx => by
    obtain ⟨p, hp, rfl⟩ := List.mem_map.mp hx
    exact List.mem_map.mpr ⟨p, List.mem_of_mem_take (g.sub p hp), rfl⟩
  have sup : ∀ x ∈ ks.map (·.2), x ∈ L.map (·.2) := fun x hx => by
    obtain ⟨p, hp, rfl⟩ := List.mem_map.mp hx
    exact g.all p (by rw [List.take_length]; exact hp)
  refine ⟨g.len, fun e => ?_, fun n => ?_⟩
  · obtain ⟨r, hr⟩ := nodup_sub nd sub
    have z := hr.length_eq
    rw [List.length_append, List.length_map, List.length_map, e] at z
    have r0 : r = [] := List.length_eq_zero_iff.mp (by omega)
    rw [r0, List.append_nil] at hr
    exact hr.nodup_iff.mpr nd
  · have := (List.perm_ext_iff_of_nodup nd n).mpr fun x => ⟨sub x, sup x⟩
    simpa using this.length_eq
section
variable {X : Cx}
/-- len(set(xs)) -/
def tLenSetT (K : PySem.W.Frag) (ta : TE) : TE := fun σ H Q => ta σ H fun x H1 => ∃ (l : Addr) (ks : List (Addr × List Int)), x = V.ref l ∧ (SqL K H1 l (ks.map fun p => V.ref p.1) ∨ SqT K H1 l (ks.map fun p => V.ref p.1)) ∧ (∀ p ∈ ks, SqT K H1 p.1 (p.2.map V.int)) ∧ ks.length < 64 ∧
  ∀ n : Nat, n ≤ ks.length → (n = ks.length ↔ (ks.map (·.2)).Nodup) → Q (.int (n : Int)) H1
theorem pe_lenSetT {a : Expr} {ta : TE} {p p2 q pos : Pos} (hc : X.calm = true) (hu : X.A.units + 64 < cLine) (hg : Gl X "len") (hm : X.mg "len" = none) (hg2 : Gl X "set") (hm2 : X.mg "set" = none) (ha : PE X a ta)
    (na : starEach [a] X.env = (false, eval a X.env) :: starEach [] X.env := by rfl) : PE X (.Call (.Name "len" p) [.Call (.Name "set" p2) [a] [] q] [] pos) (tLenSetT X.K ta) := by
  refine ⟨fun pins s σ H Q I h => ?_⟩
  refine Call_ (ld_blt I hg hm PySem.boot_len ?_)
  refine PyProof.Rows.callWith_builtin1 (PyProof.Rows.args_cons ?_ rfl) rfl rfl
  refine Call_ (ld_blt I hg2 hm2 PyProof.Rows.boot_set ?_)
  refine PyProof.Rows.callWith_type1 (PyProof.Rows.args_cons
    (thn (ha.run pins s σ H _ I h) fun v s1 ⟨x, H1, I1, r1, l, ks, ex, hq, hk, few, q1⟩ => PyProof.Rows.args_nil ?_) na) na rfl
  subst ex
  obtain rfl : v = Value.ref l := r1
  have fin : ∀ (h' : Heap) (tk : Nat) L es ep t, SetTR X.prog X.w h' s1.heap.objs.size L es ep t → Got ks ks.length L → (∀ b o, s1.heap.get? b = some o → h'.get? b = some o) →
      wpAny (model X.prog X.w) X.A (call (.builtin "len") [.ref s1.heap.objs.size]) (fun v s' => ∃ x H', Inv X pins σ H' s' ∧ RelV x v ∧ Q x H') X.xe { s1 with heap := h', toks := tk } := by
    intro h' tk L es ep t R g k
    obtain ⟨o, ho, hex, hd⟩ := R.ob
    obtain ⟨g1, g2⟩ := got_len g R.nd
    have sz := R.size (s := { s1 with heap := h', toks := tk })
    have I2 : Inv X pins σ H1 { s1 with heap := h', toks := tk } := I1.kept k
    refine call_len_set ho hex hd (R.fits (s := { s1 with heap := h', toks := tk })) (by rw [sz]; omega) ⟨.int (L.length : Int), H1, I2.tok _, ⟨_, by rw [sz]⟩, q1 L.length g1 g2⟩
  rcases hq with hq | hq
  · obtain ⟨its, rv, pl, hz⟩ := I1.list hq
    exact call_set_tups ks (I1.ok.hd hc) pl.isList (by simpa using refs_of_vals rv) (fun p hp => I1.isT (hk p hp)) few (by omega) fun h' tk L es ep t R g k => PyProof.Rows.args_nil (fin h' tk L es ep t R g k)
  · obtain ⟨its, rv, pl, hz⟩ := I1.tuple hq
    exact tup_into_set ks (I1.ok.hd hc) pl (by simpa using refs_of_vals rv) (fun p hp => I1.isT (hk p hp)) few (by omega) fun h' tk L es ep t R g k => PyProof.Rows.args_nil (fin h' tk L es ep t R g k)
end
end G

set_option maxHeartbeats 4000000
/-! sorted(xs): xs a tuple of tuples of ints. -/
namespace G
open PySem PySem.Spec PyProof.Rows L2 Tp
section
variable {prog : Program} {w : World} {A : Around} {E : Value → Shared → Prop} {s : Shared}
/-- the heap once a tuple's items are collected -/
abbrev gath (h : Heap) (us : List Value) : Heap :=
  (h.push (seqObj "list" #[] 0)).update h.objs.size
    (Obj.mapSeq (· ++ us.toArray))
theorem collect_tup {l : Addr} {us : List Value} {Q : List Value → Shared → Prop} (tl : s.heap.IsTuple l us.toArray) (fits : us.length ≤ sizeLine) (k : Q us { s with heap := gath s.heap us }) : wpAny (model prog w) A (collect (.ref l)) Q E s := by
  obtain ⟨o, ho, oc, n, od⟩ := tl
  have at1 : (s.heap.push (seqObj "list" #[] 0)).get? s.heap.objs.size = some (seqObj "list" #[] 0) := Heap.get?_push_size _ rfl
  have at2 : (s.heap.push (seqObj "list" #[] 0)).get? l = some o := Heap.get?_push_of_some _ ho
  unfold collect
  refine wpAny_bind (wpAny_runValue
    (codeAny_builtin entry_proto_collect' ?_))
  show wpAny _ _ (do
    again (.builtin "list.__iadd__" ⟨[← newList [], .ref l], []⟩)) _ _ s
  refine wpAny_bind (wpAny_newList
    (wpAny_pure ⟨Code.quiet_builtin _ (by decide +kernel),
      codeAny_builtin entry_list_iadd' ?_⟩))
  show wpAny _ _ (Builtin.List.listExtendWith (.ref s.heap.objs.size)
    (.ref l) (.ref s.heap.objs.size)) _ _ { s with heap := s.heap.push (seqObj "list" #[] 0) }
  unfold Builtin.List.listExtendWith
  refine wpAny_bind (wpAny_typeOf (T := "tuple") ⟨o, at2, oc⟩ ?_)
  have z : (Value.type "tuple" == Value.type "tuple") = true := by rfl
  rw [if_pos (by rw [z]; simp)]
  refine wpAny_bind (listItems_at at2 od ?_)
  refine wpAny_bind (listItems_at (xs := #[]) (n := 0) at1 rfl ?_)
  rw [if_neg (by simp)]
  refine wpAny_bind (listUpdate_at (xs := #[]) (n := 0) at1 rfl ?_ (Nat.zero_le _)
    (by show (#[] ++ us.toArray).size ≤ sizeLine + 1; simp only [Array.size_append, List.size_toArray, List.length_nil]; omega))
  refine wpAny_pure ?_
  show wpAny (model prog w) A (do
    let ob ← load s.heap.objs.size
    match ob.data with
    | .seq ys _ => pure ys.toList
    | _ => unsupported "internal:collect") Q E { s with heap := gath s.heap us }
  refine wpAny_bind (wpAny_load (get?_update_seq at1 _) ?_)
  show wpAny _ _ (pure ((#[] : Array Value) ++ us.toArray).toList) Q E _
  have y : ((#[] : Array Value) ++ us.toArray).toList = us := by simp
  rw [y]
  exact wpAny_pure k
open TS in
theorem sorted_tup {l : Addr} {us : List Value} {d : Nat} {B : Int} {Q : Value → Shared → Prop} (tl : s.heap.IsTuple l us.toArray) (few : us.length < 64) (hd : 1 ≤ d) (x : TupsOk s.heap d B us)
    (k : ∀ out : Array Value, out.toList.Perm us → out.toList.Pairwise (fun u v => code B (intsOf s.heap u) ≤ code B (intsOf s.heap v)) →
      Q (.ref (s.heap.objs.size + 1)) { s with heap := sortedAll s.heap us out }) :
    wpAny (model prog w) A (call (.builtin "sorted") [.ref l]) Q E s := by
  have big : us.length ≤ sizeLine := by
    rw [sizeLine_eq]
    omega
  refine Calls.call_function_entry kind_sorted plain_sorted
    entry_sorted (args_sorted1 _) ?_
  unfold Builtin.«sorted»
  refine wpAny_bind (m := checkCount "sorted" 1 1 _)
    (wpAny_pure ?_)
  refine wpAny_bind (collect_tup tl big ?_)
  refine wpAny_bind (wpAny_newList ?_ big)
  have gsz : (gath s.heap us).objs.size = s.heap.objs.size + 1 := by
    rw [Heap.size_update, size_push']
  have at1 : ((gath s.heap us).push (seqObj "list" us.toArray 0)).get? (s.heap.objs.size + 1) = some (seqObj "list" us.toArray 0) := by
    rw [← gsz]
    exact Heap.get?_push_size _ rfl
  have keep : ∀ b o, s.heap.get? b = some o → o.cls = .type "tuple" → ((gath s.heap us).push (seqObj "list" us.toArray 0)).get? b = some o := fun b o q _ => by
    have lt : b < s.heap.objs.size := Heap.lt_size q
    have ne1 : b ≠ s.heap.objs.size := Nat.ne_of_lt lt
    rw [Heap.get?_push_ne _ _ _ (by rw [gsz]; exact Nat.ne_of_lt (Nat.lt_succ_of_lt lt)),
      Heap.get?_update_ne _ _ _ _ ne1,
      Heap.get?_push_ne _ _ _ ne1]
    exact q
  show wpAny _ _ _ _ _ { s with heap := (gath s.heap us).push (seqObj "list" us.toArray 0) }
  rw [gsz]
  refine wpAny_bind (wpAny_holding (wpAny_call_entry slot_list_sort ⟨_, at1, rfl⟩ entry_list_sort
    (sort_tups at1 few hd (x.keeps keep) (fun v => code B (intsOf s.heap v)) (fun v hv ns t => ?_) fun out h1 h2 => ⟨_, rfl, ?_⟩) (args_list_sort _)))
  · obtain ⟨ms, t0, _⟩ := x v hv
    obtain rfl : ns = ms := t.ints.symm.trans (t0.keeps keep).ints
    show code B (intsOf s.heap v) = code B ns
    rw [t0.ints]
  · exact wpAny_pure ⟨_, rfl, k out h1 h2⟩
end
section
variable {X : Cx} {pins : List (Addr × Obj)} {σ : L2.St} {H : Hp} {s : Shared}
def rSortTT (K : PySem.W.Frag) (d : Nat) (B : Int) : List V → Hp → VK → Prop := fun vs H Q => ∃ (a : Addr) (xs : List V), vs = [V.ref a] ∧ (SqL K H a xs ∨ SqT K H a xs) ∧ xs.length < 64 ∧ (∀ x ∈ xs, ∃ ns, TupI K H x ns ∧ ns.length = d ∧ TS.Bd B ns) ∧
  ∀ (ys : List V) (p : Addr), ys.Perm xs → ys.Pairwise (fun x y => ∀ n m, TupI K H x n → TupI K H y m → TS.code B n ≤ TS.code B m) → H p = none → Q (.ref p) (upd H p (.lst ys))
theorem cr_sortTT {d : Nat} {B : Int} (hd : 1 ≤ d) : CallR X (.builtin "sorted") (rSortTT X.K d B) := by
  intro pins s σ H vs us Q I r h
  obtain ⟨a, xs, rfl, hs, few, hx, q⟩ := h
  rcases hs with hs | hs
  · exact cr_sortT hd pins s σ H _ us Q I r ⟨a, xs, rfl, hs, few, hx, q⟩
  · obtain ⟨its, rv, tl, hz⟩ := I.tuple hs
    rw [Vals.ref1 r]
    obtain ⟨e1, e2⟩ := bkV_refs rv fun x m => by
      obtain ⟨ns, ⟨t, e, _⟩, _⟩ := hx x m
      exact ⟨t, e⟩
    refine sorted_tup (d := d) (B := B) tl (by rw [← rv.length]; exact few) hd (fun v hv => ?_) fun out h1 h2 => ?_
    · obtain ⟨t, rfl⟩ := e2 v hv
      obtain ⟨ns, ⟨t', e, ht⟩, hn, hb⟩ := hx (V.ref t) (by rw [e1]; exact List.mem_map.mpr ⟨_, hv, rfl⟩)
      cases e
      exact ⟨ns, tupI_raw I ht, hn, hb⟩
    · obtain ⟨ep, he'⟩ := PyProof.Rows.sortedAll_at s.heap its out
      have refs : ∀ u ∈ out.toList, ∃ a, u = Value.ref a := fun u hu => e2 u (h1.mem_iff.mp hu)
      have pm : (out.toList.map bkV).Perm xs := by
        rw [e1]
        exact h1.map bkV
      have small : (out.toList.map bkV).length ≤ sizeLine := Nat.le_trans (Nat.le_of_eq pm.length_eq) hz
      refine ⟨.ref _, upd H (s.heap.objs.size + 1) (.lst (out.toList.map bkV)), I.laid (t' := s.toks) (fun _ _ => PyProof.Rows.sortedAll_old)
        (Nat.le_succ _) ⟨small, out.toList, ep, bkV_vals refs, he'⟩, rfl, q _ _ pm ?_ (I.hok.fresh (Nat.le_succ _))⟩
      rw [List.pairwise_map]
      refine h2.imp fun {u v} huv n m hn hm => ?_
      obtain ⟨t, et, ht⟩ := hn
      obtain ⟨t', et', ht'⟩ := hm
      have i1 := (tupI_raw I ht).ints
      have i2 := (tupI_raw I ht').ints
      rw [← bkV_ref et] at i1
      rw [← bkV_ref et'] at i2
      rw [← i1, ← i2]
      exact huv
end
end G

set_option maxHeartbeats 4000000
/-! x == y where x is an instance whose class says what == is. -/
namespace G
open PySem PySem.Spec PyProof.Rows L2 Tp
section
variable {X : Cx} {k : Nat} {C f : Addr} {fd : FuncData} {ps : List Str} {sp : Sp}
/-- what the class's own == says of the two, a bool -/
def rEqF (K : PySem.W.Frag) (C : Addr) (sp : Sp) : R2 := fun x y H Q => ∃ (a dx : Addr) (fs : List (Str × V)) (t : Value), x = .ref a ∧ H a = some (.ins C dx fs) ∧ TyX K H y t ∧ PySem.W.notFirst K C t = true ∧ sp [x, y] H (fun v H' => ∃ b, v = .bl b ∧ Q v H') E0
theorem op_eqF (F : FnOk X.prog X.w X.K X.mg X.base CX0 k f fd ps sp) (at_ : PySem.W.findIn X.K (.ref C) "__eq__" = some (some (.ref f))) (isf : PySem.W.isFn X.K (.ref f) = true) (bd : Binds X.K fd ps []) (hr : Room k X.A) :
    OpR X (compareOp .Eq) (rEqF X.K C sp) := by
  intro pins s σ H x y v u Q I rx ry hq
  obtain ⟨a, dx, fs, t, rfl, ha, ty, nf, hsp⟩ := hq
  cases rx
  obtain ⟨mA, J, _⟩ := ins_get I.hok ha
  obtain ⟨od, J, _⟩ := J.look
  obtain ⟨P, Z, hP, _⟩ := kit_of I ry ty
  obtain ⟨m, hF⟩ := I.fr
  show wpAny (model X.prog X.w) X.A (richCompare .Eq (.ref a) u) _ X.xe s
  refine PySem.W.cmp_K (op := .Eq) (tb := t) hr.units0 hF I.ok.mod.kin J (Z.ty _ _ I.kIn hP) nf at_ isf ?_
  have ln := F.len _ _ _ _ hsp
  have bt : BindsTo s fd ⟨[.ref a, u], []⟩ (ps.zip [.ref a, u]) := by
    have z := bd s [.ref a, u] I.kIn (by simpa using ln)
    simpa using z
  refine wpAny_call (codeAny_mono (F.run X.A X.stack s H ⟨[.ref a, u], []⟩ [.ref a, u] [.ref a, y] _ E0 hr I.env0 bt (.cons rfl (.cons ry .nil)) hsp) fun r s' q => ?_)
  cases r with
  | error e => exact q.elim
  | ok fl =>
    cases fl with
    | ret w =>
      obtain ⟨z, H', I', rz, b, ez, q'⟩ := I.after q
      subst ez
      cases rz
      exact ⟨.bl b, H', I', rfl, q'⟩
    | next => exact False.elim q
    | brk => exact False.elim q
    | cont => exact False.elim q
end
end G

set_option maxHeartbeats 4000000
/-! for x in value, where value may be a list or a tuple. -/
namespace G
open PySem PySem.Spec PyProof.Rows L2 Tp
def iSeq (K : PySem.W.Frag) (te : TE) : TI := fun σ H R => te σ H fun x H1 => ∃ a, x = V.ref a ∧ (((∃ xs, SqL K H1 a xs) ∧ R (Itl K a) H1) ∨ ((∃ xs, SqT K H1 a xs) ∧ R (Itt K a) H1))
section
variable {X : Cx}
theorem pi_seq {tg e : Expr} {te : TE} (he : PE X e te) : PI X tg e (iSeq X.K te) := by
  refine ⟨fun pins s σ H R I q => ?_⟩
  refine thn (he.run pins s σ H _ I q) fun u s2 ⟨y, H2, J, ry, b, ey, or⟩ => ?_
  subst ey
  obtain rfl : u = Value.ref b := ry
  have mine : ∀ c ∈ [s2.heap.objs.size], _ := fun c hc => by
    have z : c = s2.heap.objs.size := by simpa using hc
    subst z
    exact J.fpOk (Nat.le_refl _) (J.hok.fresh (Nat.le_refl _))
  rcases or with ⟨⟨xs, hx⟩, w⟩ | ⟨⟨xs, hx⟩, w⟩
  · obtain ⟨its, _, pl, _⟩ := J.list hx
    refine wpAny_pyIter_list pl.isList
      ⟨_, [s2.heap.objs.size], _, _, H2, rfl, J.kept (t' := s2.toks)
        fun c o z => Heap.get?_push_of_some _ z, turn_list b _,
        ⟨_, Heap.get?_push_size _ rfl, rfl, rfl⟩, mine, w⟩
  · obtain ⟨its, _, pl, _⟩ := J.tuple hx
    have pl2 : s2.heap.IsTuple b its.toArray := pl
    refine wpAny_pyIter_tuple pl2
      ⟨_, [s2.heap.objs.size], _, _, H2, rfl, J.kept (t' := s2.toks)
        fun c o z => Heap.get?_push_of_some _ z, turn_tuple b _,
        ⟨_, Heap.get?_push_size _ rfl, rfl, rfl⟩, mine, w⟩
end
section
variable {K : PySem.W.Frag} {σ : L2.St} {H : Hp} {te tl : TE} {tt : TT} {g : TG} {vs : List Nat}
/-- data of a list or a tuple -/
def PS2 (K : PySem.W.Frag) (D : Vw) (ds : List PyData) : VP := fun v H => Dp K (vw D H) v (.tuple ds) ∨ Dp K (vw D H) v (.list ds)
theorem grows_PS2 {D : Vw} {ds : List PyData} : Grows (PS2 K D ds) := fun v _ _ e h => h.imp (fun h => dp_gr (gr_vw D e) _ v h) fun h => dp_gr (gr_vw D e) _ v h
theorem em_lcS {ds : List PyData} {B : Nat → PyData → Bool → PyData → Prop} (I : Nat → List PyData → Prop) (h0 : I 0 []) (hz : ds.length ≤ 1000) (h : EvM tl σ H (PS2 K none ds))
    (body : ∀ (D : Addr) (i : Nat) (d : PyData) (x : V) (H1 : Hp), H1 D ≠ none → Gr H (delH H1 D) → ds[i]? = some d → Dp K (delH H1 D) x d → Turn K σ vs g tt te D H1 x (B i d))
    (hB0 : ∀ i d es, ds[i]? = some d → I i es → B i d false .none → I (i + 1) es) (hB1 : ∀ i d es e, ds[i]? = some d → I i es → B i d true e → I (i + 1) (es ++ [e])) :
    EvM (tLc (iSeq K tl) g tt te vs) σ H (fun v H' => ∃ es, I ds.length es ∧ PF K es v H') := fun H1 e Q q =>
  h H1 e _ fun v H2 e2 pv => by
    have bd : ∀ (D : Addr) (i : Nat) (d : PyData) (x : V) (H1' : Hp), H1' D ≠ none → Gr H2 (delH H1' D) → ds[i]? = some d → Dp K (delH H1' D) x d → Turn K σ vs g tt te D H1' x (B i d) := fun D i d x H1' hD e' => body D i d x H1' hD ((e.trans e2).trans e')
    rcases pv with pv | pv
    · cases pv with
      | @tup a xs _ hs hx =>
        obtain ⟨b, eb, hq, w⟩ := em_lcT (tl := tC (.ref a)) I h0 hz (em_c fun H' e' => .tup (e'.sqt hs) (dpAll_gr e' _ _ hx)) bd hB0 hB1 H2 (Gr.refl H2) Q fun u H3 e3 p => q u H3 (e2.trans e3) p
        exact ⟨b, eb, .inr ⟨hq, w⟩⟩
    · cases pv with
      | @lst a xs _ hs hx =>
        obtain ⟨b, eb, hq, w⟩ := em_lcL (tl := tC (.ref a)) I h0 hz (em_c fun H' e' => .lst (e'.sql hs) (dpAll_gr e' _ _ hx)) bd hB0 hB1 H2 (Gr.refl H2) Q fun u H3 e3 p => q u H3 (e2.trans e3) p
        exact ⟨b, eb, .inl ⟨hq, w⟩⟩
/-- [f(x) for x in value] -/
theorem em_mapS {ds : List PyData} (f : PyData → PyData) (hz : ds.length ≤ 1000) (h : EvM tl σ H (PS2 K none ds))
    (body : ∀ (D : Addr) (d : PyData) (x : V) (H1 : Hp), H1 D ≠ none → Gr H (delH H1 D) → d ∈ ds → Dp K (delH H1 D) x d → ∃ σ2, (∀ Q : L2.St → Hp → Prop, Q σ2 H1 → g x (wipe σ vs) H1 Q) ∧ wipe σ2 vs = wipe σ vs ∧ EvM te σ2 H1 (PP K (some D) (f d))) :
    EvM (tLc (iSeq K tl) g tYes te vs) σ H (PF K (ds.map f)) := by
  have hc := em_lcS (K := K) (tt := tYes) (te := te) (B := fun _ d b e => b = true ∧ e = f d) (fun i es => es = (ds.take i).map f) (by simp) hz h (fun D i d x H1 hD e hd px => by
    obtain ⟨σ2, h1, h2, h3⟩ := body D d x H1 hD e (List.mem_of_getElem? hd) px
    exact ⟨σ2, h1, h2, em_yes ⟨(fun z => by cases z), fun _ => ⟨f d, ⟨rfl, rfl⟩, h3⟩⟩⟩) (fun i d es _ _ hb => by cases hb.1) (fun i d es e' hd hI hb => by rw [hb.2, hI, take_snoc hd, List.map_append]; rfl)
  refine em_imp hc fun v' H' _ ⟨es, he, pf⟩ => ?_
  rw [List.take_length] at he
  rw [← he]
  exact pf
end
end G

set_option maxHeartbeats 400000
/-! What values are: integers, places, pairs, lists of pairs. -/
namespace G
open PySem PySem.Spec PyProof.Rows L2 Tp
/-- the type's name -/
def tyD : PyData → String
  | .none => "NoneType"
  | .bool _ => "bool"
  | .int _ => "int"
  | .str _ => "str"
  | .list _ => "list"
  | .tuple _ => "tuple"
  | .dict _ => "dict"
theorem dp_ty {K : PySem.W.Frag} {H : Hp} {v : V} {d : PyData} (h : Dp K H v d) : TyX K H v (.type (tyD d)) := by
  cases h with
  | non => exact .base .non
  | bl b => exact .base (.bl b)
  | int i => exact .base (.int i)
  | str x => exact .base (.str x)
  | lst hs _ =>
    rcases hs with (h | ⟨o, h⟩) | ⟨o, its, n, h, c, _⟩
    · exact .base (.lst h)
    · exact .base (.frz h)
    · exact .kList h c
  | tup hs _ =>
    rcases hs with (h | ⟨o, h⟩) | ⟨o, its, n, h, c, _⟩
    · exact .base (.tup h)
    · exact .fTuple h
    · exact .kTuple h c
theorem dat_ty {K : PySem.W.Frag} {H : Hp} {v : V} {d : PyData} (h : Dat K H v d) : TyX K H v (.type (tyD d)) := by
  cases h with
  | dp h => exact dp_ty h
  | dk h => exact .base (.dK h)
/-- bool is an int -/
def subTy (T U : String) : Bool := T == U || (T == "bool" && U == "int")
/-- what isinstance says of the plain types -/
def KitTy (K : PySem.W.Frag) : Prop := ∀ (d : PyData) (U : String), U ∈ ["int", "bool", "tuple", "list"] → PySem.W.kitOne K (.type (tyD d)) (.type U) = some (subTy (tyD d) U)
abbrev tIsi (K : PySem.W.Frag) (U : String) (te : TE) : TE := tCB (rIsi K) (tCons te (tCons (tC (.ty U)) tNil))
section
variable {K : PySem.W.Frag} {σ : L2.St} {H : Hp} {D : Vw} {te ta tb tc : TE}
theorem em_isiD {U : String} {d : PyData} (KT : KitTy K) (hU : U ∈ ["int", "bool", "tuple", "list"]) (h : EvM te σ H (fun v H' => Dat K H' v d)) : EvM (tIsi K U te) σ H (fun v _ => v = .bl (subTy (tyD d) U)) := fun H1 e Q q =>
  h H1 e _ fun v H2 e2 hv => ⟨v, .ty U, .type (tyD d), .type U, _, rfl, .ty U, dat_ty hv, KT d U hU, q _ H2 e2 rfl⟩
/-- a value that isn't changed while the heap grows: its data, or a dict -/
def Stay (K : PySem.W.Frag) (H : Hp) (v : V) (d : PyData) : Prop := ∀ H', Gr H H' → Dat K H' v d
theorem stay_dp {v : V} {d : PyData} (h : Dp K H v d) : Stay K H v d := fun _ e => .dp (dp_gr e _ _ h)
theorem Stay.grow {v : V} {d : PyData} {H' : Hp} (h : Stay K H v d) (e : Gr H H') : Stay K H' v d := fun H2 e2 => h H2 (e.trans e2)
theorem stay_dk {a : Addr} {kvs : List (Key × Int)} (h : H a = some (.dK (kvs.map fun x => (x.1, V.int x.2)))) (n : ¬ IsT (.dK (kvs.map fun x => (x.1, V.int x.2)))) : Stay K H (.ref a) (.dict (kvs.map fun x => (keyD x.1, .int x.2))) := fun H' e => .dk (e.at h n)
theorem em_stay {i : Nat} {v : V} {d : PyData} (hi : σ[i]? = some (some v)) (h : Stay K H v d) : EvM (tVar i) σ H (fun u H' => Dat K H' u d) := em_var hi h
def isIntD : PyData → Bool
  | .int _ => true
  | _ => false
abbrev NVal1 : List Str := ["value"]
abbrev NVal2 : List Str := ["value", "many"]
def t_isInt (K : PySem.W.Frag) : TS := tRet (tAndV (tIsi K "int" (tVar 0)) (tNotV (tIsi K "bool" (tVar 0))))
def spIsInt (K : PySem.W.Frag) : Sp := fun vs H Q _ => ∃ v d, vs = [v] ∧ Stay K H v d ∧ ∀ H', Gr H H' → Q (.bl (isIntD d)) H'
theorem pure_isInt (KT : KitTy K) (vs : List V) (H : Hp) (Q : VK) (E : XK) (h : spIsInt K vs H Q E) : t_isInt K { nx := fun _ H' => Q .non H', rt := Q } (start NVal1 vs) H := by
  obtain ⟨v, d, rfl, hv, k⟩ := h
  unfold t_isInt
  refine q_ret (em_andV (em_isiD KT (by simp) (em_stay rfl hv)) fun _ => em_notV (em_isiD KT (by simp) (em_stay rfl hv))) fun u H1 e eu => ?_
  subst eu
  have z : (subTy (tyD d) "int" && !subTy (tyD d) "bool") = isIntD d := by cases d <;> rfl
  rw [z]
  exact k H1 e
abbrev tIsIntC (K : PySem.W.Frag) (te : TE) : TE := tCall (spIsInt K) [] E0 (tCons te tNil)
theorem em_isInt {d : PyData} (h : EvM te σ H (fun v H' => Stay K H' v d)) : EvM (tIsIntC K te) σ H (fun v _ => v = .bl (isIntD d)) := fun H1 e Q q =>
  h H1 e _ fun v H2 e2 hv => ⟨v, d, rfl, hv, fun H3 e3 => q _ H3 (e2.trans e3) rfl⟩
theorem em_stay2 {i : Nat} {v : V} {d : PyData} (hi : σ[i]? = some (some v)) (h : Stay K H v d) : EvM (tVar i) σ H (fun u H' => Stay K H' u d) := em_var hi fun _ e => h.grow e
theorem em_stayP {d : PyData} (h : EvM te σ H (PP K none d)) : EvM te σ H (fun u H' => Stay K H' u d) := em_imp h fun _ _ _ p => stay_dp p
/-! places -/
def placeD (d : PyData) (n : Int) : Bool := match d with
  | .int i => decide (0 ≤ i ∧ i < n)
  | _ => false
theorem em_chain {i j m : Int} {f g : Int → Int → Bool} (ha : EvM ta σ H fun v _ => v = .int i) (hb : EvM tb σ H fun v _ => v = .int j) (hc : EvM tc σ H fun v _ => v = .int m) :
    EvM (tChain (rI0 fun i j => .bl (f i j)) (rI0 fun i j => .bl (g i j)) ta tb tc) σ H (fun v _ => v = .bl (f i j && g j m)) := fun H1 e Q q =>
  ha H1 e _ fun v H2 e2 ev => hb H2 (e.trans e2) _ fun u H3 e3 eu => ⟨i, j, ev, eu, _, rfl, by
    cases z : f i j with
    | true => exact iteT (hc H3 ((e.trans e2).trans e3) _ fun w H4 e4 ew => ⟨j, m, eu, ew, q _ H4 ((e2.trans e3).trans e4) (by rw [z]; rfl)⟩)
    | false => exact iteF (q _ H3 (e2.trans e3) (by rw [z]; rfl))⟩
def t_place (K : PySem.W.Frag) : TS := tRet (tAndV (tIsIntC K (tVar 0)) (tChain rLe rLt (c 0) (tVar 0) (tVar 1)))
def spPlace (K : PySem.W.Frag) : Sp := fun vs H Q _ => ∃ v d n, vs = [v, .int n] ∧ Stay K H v d ∧ ∀ H', Gr H H' → Q (.bl (placeD d n)) H'
theorem int_of_stay {v : V} {d : PyData} (h : Stay K H v d) (hi : isIntD d = true) : ∃ i, d = .int i ∧ v = .int i := by
  cases d <;> simp [isIntD] at hi
  have q := h H (Gr.refl H)
  cases q with
  | dp q => cases q; exact ⟨_, rfl, rfl⟩
theorem pure_place (vs : List V) (H : Hp) (Q : VK) (E : XK) (h : spPlace K vs H Q E) : t_place K { nx := fun _ H' => Q .non H', rt := Q } (start NVal2 vs) H := by
  obtain ⟨v, d, n, rfl, hv, k⟩ := h
  unfold t_place
  refine q_ret (P := fun u _ => u = .bl (placeD d n)) ?_ fun u H1 e eu => by
    subst eu
    exact k H1 e
  have z := em_andV (σ := start NVal2 [v, .int n]) (H := H) (a := isIntD d) (b := placeD d n) (tb := tChain rLe rLt (c 0) (tVar 0) (tVar 1)) (em_isInt (te := tVar 0) (em_stay2 rfl hv)) fun hi => ?_
  · have y : (isIntD d && placeD d n) = placeD d n := by cases d <;> simp [isIntD, placeD]
    rw [y] at z
    exact z
  · obtain ⟨i, rfl, rfl⟩ := int_of_stay hv hi
    refine em_imp (em_chain (f := fun i j => decide (i ≤ j)) (g := fun i j => decide (i < j)) em_ci (em_var (v := .int i) rfl fun _ _ => rfl) (em_var (v := .int n) rfl fun _ _ => rfl)) fun u _ _ eu => ?_
    rw [eu]
    simp [placeD, Bool.decide_and]
abbrev tPlaceC (K : PySem.W.Frag) (ta tb : TE) : TE := tCall (spPlace K) [] E0 (tCons ta (tCons tb tNil))
theorem em_place {d : PyData} {n : Int} (h : EvM ta σ H (fun v H' => Stay K H' v d)) (hb : EvM tb σ H fun v _ => v = .int n) : EvM (tPlaceC K ta tb) σ H (fun v _ => v = .bl (placeD d n)) := fun H1 e Q q =>
  h H1 e _ fun v H2 e2 hv => hb H2 (e.trans e2) _ fun u H3 e3 eu => ⟨v, d, n, by rw [eu]; rfl, hv.grow e3, fun H4 e4 => q _ H4 ((e2.trans e3).trans e4) rfl⟩
end
end G

set_option maxHeartbeats 400000
/-! Lists of pairs of rows. -/
namespace G
open PySem PySem.Spec PyProof.Rows L2 Tp
abbrev tLenC (K : PySem.W.Frag) (te : TE) : TE := tCB (Tp.rLen K) (tCons te tNil)
section
variable {K : PySem.W.Frag} {σ : L2.St} {H : Hp} {D : Vw} {te ta tb tc : TE}
theorem em_neI {i j : Int} (ha : EvM ta σ H fun v _ => v = .int i) (hb : EvM tb σ H fun v _ => v = .int j) : EvM (tOp rNe ta tb) σ H (fun v _ => v = .bl (!decide (i = j))) := fun H1 x Q q =>
  ha H1 x _ fun v H2 e2 pv => hb H2 (x.trans e2) _ fun u H3 e3 pu => by
    subst pv pu
    refine ⟨rfl, q _ H3 (e2.trans e3) ?_⟩
    congr 2
    rw [decide_eq_decide]
    exact ⟨fun h => V.int.inj h, fun h => by rw [h]⟩
theorem em_lenT {ds : List PyData} (h : EvM te σ H (PP K D (.tuple ds))) : EvM (tLenC K te) σ H (fun v _ => v = .int (ds.length : Nat)) := fun H1 e Q q =>
  h H1 e _ fun v H2 e2 pv => by
    cases pv with
    | tup hs hx => exact ⟨_, _, rfl, .inr ((gr_vw1 D).sqt hs), q _ H2 e2 (by rw [dpAll_len hx])⟩
theorem em_lenS {ds : List PyData} (h : EvM te σ H (PS2 K D ds)) : EvM (tLenC K te) σ H (fun v _ => v = .int (ds.length : Nat)) := fun H1 e Q q =>
  h H1 e _ fun v H2 e2 pv => by
    rcases pv with pv | pv
    · cases pv with
      | tup hs hx => exact ⟨_, _, rfl, .inr ((gr_vw1 D).sqt hs), q _ H2 e2 (by rw [dpAll_len hx])⟩
    · cases pv with
      | lst hs hx => exact ⟨_, _, rfl, .inl ((gr_vw1 D).sql hs), q _ H2 e2 (by rw [dpAll_len hx])⟩
/-- any value: a pair of rows below n? -/
def pairB (d : PyData) (n : Int) : Bool := match d with
  | .tuple [a, b] => placeD a n && placeD b n
  | _ => false
def isTupD : PyData → Bool
  | .tuple _ => true
  | _ => false
theorem tup_of_stay {v : V} {d : PyData} (h : Stay K H v d) (hi : isTupD d = true) : ∃ ds, d = .tuple ds ∧ Dp K H v (.tuple ds) := by
  cases d <;> simp [isTupD] at hi
  have q := h H (Gr.refl H)
  cases q with
  | dp q => exact ⟨_, rfl, q⟩
def t_pair (K : PySem.W.Frag) : TS :=
  tSeq (tIfS (tOr (tNot (tB (tIsi K "tuple" (tVar 0)))) (tTest (tOp rNe (tLenC K (tVar 0)) (c 2)))) (tRet (tC (.bl false))) tNext)
  (tRet (tAndV (tPlaceC K (tAtC K 0 0) (tVar 1)) (tPlaceC K (tAtC K 0 1) (tVar 1))))
def spPair (K : PySem.W.Frag) : Sp := fun vs H Q _ => ∃ v d n, vs = [v, .int n] ∧ Stay K H v d ∧ ∀ H', Gr H H' → Q (.bl (pairB d n)) H'
theorem pure_pair (KT : KitTy K) (vs : List V) (H : Hp) (Q : VK) (E : XK) (h : spPair K vs H Q E) : t_pair K { nx := fun _ H' => Q .non H', rt := Q } (start NVal2 vs) H := by
  obtain ⟨v, d, n, rfl, hv, k⟩ := h
  unfold t_pair
  have tst := et_or (u := tTest (tOp rNe (tLenC K (tVar 0)) (c 2))) (b := match d with | .tuple ds => !decide ((ds.length : Int) = 2) | _ => true) (et_not (et_B (em_isiD (σ := start NVal2 [v, .int n]) (U := "tuple") KT (by simp) (em_stay (i := 0) rfl hv)))) fun hi => ?_
  · refine q_if tst (fun z H1 e => ?_) fun z H1 e => ?_
    · refine q_ret (P := fun u _ => u = .bl false) (em_c fun _ _ => rfl) fun u H2 e2 eu => ?_
      subst eu
      have y : pairB d n = false := by
        cases d with
        | tuple ds =>
          rcases ds with _ | ⟨a, _ | ⟨b, _ | ⟨c, r⟩⟩⟩ <;> simp [tyD, subTy] at z <;> rfl
        | _ => rfl
      rw [← y]
      exact k H2 (e.trans e2)
    · have ht : isTupD d = true := by cases d <;> simp [tyD, subTy, isTupD] at z ⊢
      obtain ⟨ds, rfl, hd⟩ := tup_of_stay hv ht
      have h2 : ds.length = 2 := by
        simp [tyD, subTy] at z
        omega
      obtain ⟨a, b, rfl⟩ : ∃ a b, ds = [a, b] := by
        rcases ds with _ | ⟨a, _ | ⟨b, _ | ⟨c, r⟩⟩⟩ <;> simp at h2
        exact ⟨a, b, rfl⟩
      refine q_ret (em_andV (em_place (em_stayP (em_ixT (D := none) (i := 0) (em_vP grows_PP rfl (dp_gr e _ _ hd)) (em_c fun _ _ => rfl) rfl)) (em_var rfl fun _ _ => rfl)) fun _ => em_place (em_stayP (em_ixT (D := none) (i := 1) (em_vP grows_PP rfl (dp_gr e _ _ hd)) (em_c fun _ _ => rfl) rfl)) (em_var rfl fun _ _ => rfl)) fun u H2 e2 eu => ?_
      subst eu
      exact k H2 (e.trans e2)
  · have ht : isTupD d = true := by cases d <;> simp [tyD, subTy, isTupD] at hi ⊢
    obtain ⟨ds, rfl, hd⟩ := tup_of_stay hv ht
    exact et_test (em_neI (em_lenT (D := none) (em_vP grows_PP rfl hd)) em_ci)
abbrev tPairC (K : PySem.W.Frag) (ta tb : TE) : TE := tCall (spPair K) [] E0 (tCons ta (tCons tb tNil))
theorem em_pairB {d : PyData} {n : Int} (h : EvM ta σ H (fun v H' => Stay K H' v d)) (hb : EvM tb σ H fun v _ => v = .int n) : EvM (tPairC K ta tb) σ H (fun v _ => v = .bl (pairB d n)) := fun H1 e Q q =>
  h H1 e _ fun v H2 e2 hv => hb H2 (e.trans e2) _ fun u H3 e3 eu => ⟨v, d, n, by rw [eu]; rfl, hv.grow e3, fun H4 e4 => q _ H4 ((e2.trans e3).trans e4) rfl⟩
end
end G

set_option maxHeartbeats 400000
/-! Which values are the pairs of a frame: inner ones, outer ones. -/
namespace G
open PySem PySem.Spec PyProof.Rows L2 Tp
/-- the items of a list or a tuple -/
def itemsD : PyData → Option (List PyData)
  | .list ds => some ds
  | .tuple ds => some ds
  | _ => none
def toPr : PyData → Pr
  | .tuple [.int a, .int b] => (a, b)
  | _ => (0, 0)
def outerB (d : PyData) (n : Int) : Bool := match itemsD d with
  | some ds => ds.all (fun x => pairB x n) && decide (ds.map toPr).Nodup
  | none => false
def innerB (d : PyData) (n : Int) : Bool := match itemsD d with
  | some ds => outerB d n && ds.all (fun x => decide ((toPr x).1 < (toPr x).2))
  | none => false
def KitSeq (K : PySem.W.Frag) : Prop := ∀ d : PyData, PySem.W.kitAny K (.type (tyD d)) [.type "list", .type "tuple"] = some (itemsD d).isSome
abbrev tIsSeq (K : PySem.W.Frag) (te : TE) : TE := tCB (rIsiT K) (tCons te (tCons (tTup (tCons (tC (.ty "list")) (tCons (tC (.ty "tuple")) tNil))) tNil))
abbrev tAllC (K : PySem.W.Frag) (te : TE) : TE := tCB (rAll K) (tCons te tNil)
section
variable {K : PySem.W.Frag} {σ : L2.St} {H : Hp} {D : Vw} {te ta tb tc : TE}
theorem em_isSeq {d : PyData} (KS : KitSeq K) (h : EvM te σ H (fun v H' => Stay K H' v d)) : EvM (tIsSeq K te) σ H (fun v _ => v = .bl (itemsD d).isSome) := fun H1 e Q q =>
  h H1 e _ fun v H2 e2 hv => ⟨by decide, fun p hp => ⟨v, p, [.ty "list", .ty "tuple"], .type (tyD d), [.type "list", .type "tuple"], _, rfl, upd_same, .cons (.ty _) (.cons (.ty _) .nil), dat_ty (hv _ (Gr.new hp)), KS d, q _ _ (e2.trans (Gr.new hp)) rfl⟩⟩
theorem dpAll_bools : ∀ {bs : List Bool} {xs : List V}, DpAll K H xs (bs.map PyData.bool) → xs = bs.map V.bl
  | [], _, h => by cases h; rfl
  | b :: bs, _, h => by
    cases h with
    | cons h1 h2 =>
      cases h1
      rw [dpAll_bools h2]
      rfl
theorem em_all {bs : List Bool} (h : EvM te σ H (PF K (bs.map PyData.bool))) : EvM (tAllC K te) σ H (fun v _ => v = .bl (bs.all id)) := fun H1 e Q q =>
  h H1 e _ fun v H2 e2 ⟨p, xs, ev, hp, hx⟩ => ⟨p, bs, by rw [ev], by rw [← dpAll_bools hx]; exact SqL.of hp, q _ H2 e2 rfl⟩
/-- the items, each at its place -/
theorem dpAll_ks : ∀ {l : List Pr} {xs : List V}, DpAll K H xs (l.map pairD) → ∃ ks : List (Addr × List Int), xs = ks.map (fun p => V.ref p.1) ∧ ks.map (·.2) = l.map (fun p => [p.1, p.2]) ∧ ∀ p ∈ ks, SqT K H p.1 (p.2.map V.int)
  | [], _, h => by cases h; exact ⟨[], rfl, rfl, fun p hp => nomatch hp⟩
  | q :: l, _, h => by
    cases h with
    | cons h1 h2 =>
      obtain ⟨ks, rfl, e2, e3⟩ := dpAll_ks h2
      cases h1 with
      | @tup a ys _ hs hx =>
        cases hx with
        | cons x1 hx =>
          cases hx with
          | cons x2 hx =>
            cases hx
            cases x1
            cases x2
            refine ⟨(a, [q.1, q.2]) :: ks, rfl, by simp [e2], fun p hp => ?_⟩
            rcases List.mem_cons.mp hp with rfl | hp
            · exact hs
            · exact e3 p hp
theorem nodup_two {l : List Pr} : (l.map fun p => [p.1, p.2]).Nodup ↔ l.Nodup := by
  constructor
  · intro h
    exact (List.pairwise_map.mp h).imp fun h e => h (by rw [e])
  · intro h
    refine List.pairwise_map.mpr (h.imp fun {a b} h e => h ?_)
    have e1 : a.1 = b.1 ∧ a.2 = b.2 := by simpa using e
    exact Prod.ext e1.1 e1.2
theorem em_lenSet {l : List Pr} (hl : l.length < 64) (h : EvM te σ H (PS2 K none (l.map pairD))) : EvM (tLenSetT K te) σ H (fun v _ => ∃ n : Nat, v = .int (n : Int) ∧ n ≤ l.length ∧ (n = l.length ↔ l.Nodup)) := fun H1 e Q q =>
  h H1 e _ fun v H2 e2 pv => by
    have fin : ∀ (a : Addr) (xs : List V), (SqL K H2 a xs ∨ SqT K H2 a xs) → DpAll K H2 xs (l.map pairD) → ∃ (l' : Addr) (ks : List (Addr × List Int)), V.ref a = V.ref l' ∧ (SqL K H2 l' (ks.map fun p => V.ref p.1) ∨ SqT K H2 l' (ks.map fun p => V.ref p.1)) ∧ (∀ p ∈ ks, SqT K H2 p.1 (p.2.map V.int)) ∧ ks.length < 64 ∧
        ∀ n : Nat, n ≤ ks.length → (n = ks.length ↔ (ks.map (·.2)).Nodup) → Q (.int (n : Int)) H2 := fun a xs hs hx => by
      obtain ⟨ks, rfl, k2, k3⟩ := dpAll_ks hx
      have kl : ks.length = l.length := by
        have z := congrArg List.length k2
        simpa using z
      refine ⟨a, ks, rfl, hs, k3, by rw [kl]; exact hl, fun n h1 h2 => q _ H2 e2 ⟨n, rfl, by rw [← kl]; exact h1, ?_⟩⟩
      rw [← kl, h2, k2]
      exact nodup_two
    rcases pv with pv | pv
    · cases pv with
      | tup hs hx => exact fin _ _ (.inr hs) hx
    · cases pv with
      | lst hs hx => exact fin _ _ (.inl hs) hx
theorem em_lenEq {l : List Pr} (hl : l.length < 64) (h : EvM te σ H (PS2 K none (l.map pairD))) (h' : EvM te σ H (PS2 K none (l.map pairD))) : EvM (tOp rEq (tLenSetT K te) (tLenC K te)) σ H (fun v _ => v = .bl (decide l.Nodup)) := fun H1 e Q q =>
  em_lenSet hl h H1 e _ fun v H2 e2 ⟨n, ev, h1, h2⟩ => em_lenS (D := none) h' H2 (e.trans e2) _ fun u H3 e3 eu => by
    subst ev eu
    refine ⟨rfl, q _ H3 (e2.trans e3) ?_⟩
    congr 1
    rw [decide_eq_decide, List.length_map, ← h2]
    exact ⟨fun z => by injection z with z; exact Int.ofNat.inj z, fun z => by rw [z]⟩
/-- a pair of rows is a pair -/
theorem pair_of {d : PyData} {n : Int} (h : pairB d n = true) : ∃ p : Pr, d = pairD p ∧ toPr d = p := by
  unfold pairB at h
  split at h
  · rename_i a b
    cases a <;> simp [placeD] at h
    cases b <;> simp [placeD] at h
    exact ⟨(_, _), rfl, rfl⟩
  · cases h
theorem pairs_of : ∀ {ds : List PyData} {n : Int}, ds.all (fun x => pairB x n) = true → ds = (ds.map toPr).map pairD
  | [], _, _ => rfl
  | d :: ds, n, h => by
    rw [List.all_cons, Bool.and_eq_true] at h
    obtain ⟨p, h1, h2⟩ := pair_of h.1
    rw [List.map_cons, List.map_cons, h2, ← h1, ← pairs_of h.2]
abbrev NPairs : List Str := ["value", "width", "pair"]
def t_outer (K : PySem.W.Frag) : TS :=
  tSeq (tIfS (tNot (tB (tIsSeq K (tVar 0)))) (tRet (tC (.bl false))) tNext)
  (tRet (tAndV (tAllC K (tLc (iSeq K (tVar 0)) (gName 2) tYes (tPairC K (tVar 2) (tVar 1)) [2])) (tOp rEq (tLenSetT K (tVar 0)) (tLenC K (tVar 0)))))
def spOuter (K : PySem.W.Frag) : Sp := fun vs H Q _ => ∃ v d n, vs = [v, .int n] ∧ Stay K H v d ∧ (∀ ds, itemsD d = some ds → ds.length < 64) ∧ ∀ H', Gr H H' → Q (.bl (outerB d n)) H'
theorem seq_of_stay {v : V} {d : PyData} {ds : List PyData} (h : Stay K H v d) (hi : itemsD d = some ds) : PS2 K none ds v H := by
  have q := h H (Gr.refl H)
  cases d <;> simp [itemsD] at hi
  · subst hi
    cases q with
    | dp q => exact .inr q
  · subst hi
    cases q with
    | dp q => exact .inl q
theorem pure_outer (KS : KitSeq K) (vs : List V) (H : Hp) (Q : VK) (E : XK) (h : spOuter K vs H Q E) : t_outer K { nx := fun _ H' => Q .non H', rt := Q } (start NPairs vs) H := by
  obtain ⟨v, d, n, rfl, hv, hl, k⟩ := h
  unfold t_outer
  refine q_if (et_not (et_B (em_isSeq KS (em_stay2 rfl hv)))) (fun z H1 e => ?_) fun z H1 e => ?_
  · refine q_ret (P := fun u _ => u = .bl false) (em_c fun _ _ => rfl) fun u H2 e2 eu => ?_
    subst eu
    have y : outerB d n = false := by
      unfold outerB
      cases hd : itemsD d with
      | none => rfl
      | some ds => rw [hd] at z; simp at z
    rw [← y]
    exact k H2 (e.trans e2)
  · obtain ⟨ds, hd⟩ : ∃ ds, itemsD d = some ds := by
      cases hd : itemsD d with
      | none => rw [hd] at z; simp at z
      | some ds => exact ⟨ds, rfl⟩
    have hs := grows_PS2 _ _ _ e (seq_of_stay hv hd)
    have hz := hl ds hd
    have m := em_mapS (K := K) (σ := start NPairs [v, .int n]) (H := H1) (vs := [2]) (g := gName 2) (te := tPairC K (tVar 2) (tVar 1)) (tl := tVar 0) (fun x => .bool (pairB x n)) (by omega) (em_vP grows_PS2 rfl hs) (fun D d' x H2 hD e' hd' px => ?_)
    · have m2 : (ds.map fun x => PyData.bool (pairB x n)) = (ds.map fun x => pairB x n).map PyData.bool := by rw [List.map_map]; rfl
      rw [m2] at m
      have eqn : outerB d n = (ds.all (fun x => pairB x n) && decide (ds.map toPr).Nodup) := by
        unfold outerB
        rw [hd]
      refine q_ret (P := fun u _ => u = .bl (outerB d n)) ?_ fun u H2 e2 eu => by
        subst eu
        exact k H2 (e.trans e2)
      rw [eqn]
      have ma := em_all m
      have al : ((ds.map fun x => pairB x n).all id) = ds.all (fun x => pairB x n) := by rw [List.all_map]; rfl
      rw [al] at ma
      refine em_andV ma fun z2 => ?_
      have z3 := pairs_of z2
      have hs2 := hs
      rw [z3] at hs2
      refine em_lenEq (l := ds.map toPr) (by rw [List.length_map]; exact hz) (em_vP grows_PS2 rfl hs2) (em_vP grows_PS2 rfl hs2)
    · refine ⟨_, fun Q q => q, rfl, ?_⟩
      refine em_imp (em_pairB (em_stay2 rfl (stay_dp (dp_gr gr_del _ _ px))) (em_var rfl fun _ _ => rfl)) fun u _ _ eu => ?_
      subst eu
      exact .bl _
end
end G

set_option maxHeartbeats 400000
/-! Inner pairs; sorted pairs; a frame made. -/
namespace G
open PySem PySem.Spec PyProof.Rows L2 Tp
section
variable {K : PySem.W.Frag} {σ : L2.St} {H : Hp} {D : Vw} {te ta tb tc : TE}
abbrev tOuterC (K : PySem.W.Frag) (ta tb : TE) : TE := tCall (spOuter K) [] E0 (tCons ta (tCons tb tNil))
theorem em_outer {d : PyData} {n : Int} (hl : ∀ ds, itemsD d = some ds → ds.length < 64) (h : EvM ta σ H (fun v H' => Stay K H' v d)) (hb : EvM tb σ H fun v _ => v = .int n) : EvM (tOuterC K ta tb) σ H (fun v _ => v = .bl (outerB d n)) := fun H1 e Q q =>
  h H1 e _ fun v H2 e2 hv => hb H2 (e.trans e2) _ fun u H3 e3 eu => ⟨v, d, n, by rw [eu]; rfl, hv.grow e3, hl, fun H4 e4 => q _ H4 ((e2.trans e3).trans e4) rfl⟩
def t_inner (K : PySem.W.Frag) : TS := tRet (tAndV (tOuterC K (tVar 0) (tVar 1)) (tAllC K (tLc (iSeq K (tVar 0)) (gName 2) tYes (tOp rLt (tAtC K 2 0) (tAtC K 2 1)) [2])))
def spInner (K : PySem.W.Frag) : Sp := fun vs H Q _ => ∃ v d n, vs = [v, .int n] ∧ Stay K H v d ∧ (∀ ds, itemsD d = some ds → ds.length < 64) ∧ ∀ H', Gr H H' → Q (.bl (innerB d n)) H'
theorem pure_inner (vs : List V) (H : Hp) (Q : VK) (E : XK) (h : spInner K vs H Q E) : t_inner K { nx := fun _ H' => Q .non H', rt := Q } (start NPairs vs) H := by
  obtain ⟨v, d, n, rfl, hv, hl, k⟩ := h
  unfold t_inner
  refine q_ret (P := fun u _ => u = .bl (outerB d n && innerB d n)) (em_andV (em_outer hl (em_stay2 rfl hv) (em_var rfl fun _ _ => rfl)) fun z => ?_) fun u H1 e eu => ?_
  · obtain ⟨ds, hd⟩ : ∃ ds, itemsD d = some ds := by
      unfold outerB at z
      cases hd : itemsD d with
      | none => rw [hd] at z; cases z
      | some ds => exact ⟨ds, rfl⟩
    have hs := seq_of_stay hv hd
    have hz := hl ds hd
    have ap : ds.all (fun x => pairB x n) = true := by
      unfold outerB at z
      rw [hd] at z
      exact (Bool.and_eq_true_iff.mp z).1
    have eqn : innerB d n = ds.all (fun x => decide ((toPr x).1 < (toPr x).2)) := by
      unfold innerB
      rw [hd, z]
      rfl
    rw [eqn]
    have m := em_mapS (K := K) (σ := start NPairs [v, .int n]) (H := H) (vs := [2]) (g := gName 2) (te := tOp rLt (tAtC K 2 0) (tAtC K 2 1)) (tl := tVar 0) (fun x => .bool (decide ((toPr x).1 < (toPr x).2))) (by omega) (em_vP grows_PS2 rfl hs) (fun D d' x H2 hD e' hd' px => ?_)
    · have m2 : (ds.map fun x => PyData.bool (decide ((toPr x).1 < (toPr x).2))) = (ds.map fun x => decide ((toPr x).1 < (toPr x).2)).map PyData.bool := by rw [List.map_map]; rfl
      rw [m2] at m
      have ma := em_all m
      have al : ((ds.map fun x => decide ((toPr x).1 < (toPr x).2)).all id) = ds.all (fun x => decide ((toPr x).1 < (toPr x).2)) := by rw [List.all_map]; rfl
      rw [al] at ma
      exact ma
    · refine ⟨_, fun Q q => q, rfl, ?_⟩
      obtain ⟨p, rfl, hp⟩ := pair_of (List.all_eq_true.mp ap d' hd')
      rw [hp]
      refine em_of_bl (em_i0 (f := fun i j => .bl (decide (i < j))) (em_int (em_ixT (D := some D) (ds := [.int p.1, .int p.2]) (i := 0) (em_vP grows_PP rfl px) (em_c fun _ _ => rfl) rfl)) (em_int (em_ixT (D := some D) (ds := [.int p.1, .int p.2]) (i := 1) (em_vP grows_PP rfl px) (em_c fun _ _ => rfl) rfl)))
  · subst eu
    have y : (outerB d n && innerB d n) = innerB d n := by
      unfold innerB
      cases itemsD d with
      | none => simp
      | some ds => simp
    rw [y]
    exact k H1 e
abbrev tInnerC (K : PySem.W.Frag) (ta tb : TE) : TE := tCall (spInner K) [] E0 (tCons ta (tCons tb tNil))
theorem em_inner {d : PyData} {n : Int} (hl : ∀ ds, itemsD d = some ds → ds.length < 64) (h : EvM ta σ H (fun v H' => Stay K H' v d)) (hb : EvM tb σ H fun v _ => v = .int n) : EvM (tInnerC K ta tb) σ H (fun v _ => v = .bl (innerB d n)) := fun H1 e Q q =>
  h H1 e _ fun v H2 e2 hv => hb H2 (e.trans e2) _ fun u H3 e3 eu => ⟨v, d, n, by rw [eu]; rfl, hv.grow e3, hl, fun H4 e4 => q _ H4 ((e2.trans e3).trans e4) rfl⟩
/-! sorted -/
def ltP (p q : Pr) : Prop := p.1 < q.1 ∨ (p.1 = q.1 ∧ p.2 < q.2)
/-- within small bounds, strictly ascending -/
def Asc (l : List Pr) : Prop := l.Pairwise ltP ∧ ∀ p ∈ l, (0 ≤ p.1 ∧ p.1 < 64) ∧ 0 ≤ p.2 ∧ p.2 < 64
theorem ltP_irrefl (p : Pr) : ¬ ltP p p := fun h => by
  rcases h with h | h <;> omega
theorem asc_nodup {l : List Pr} (h : Asc l) : l.Nodup := by
  refine List.Pairwise.imp ?_ h.1
  intro a b hab e
  subst e
  exact ltP_irrefl a hab
/-- two ascending lists of the same pairs are one -/
theorem asc_unique : ∀ {l m : List Pr}, l.Pairwise ltP → m.Pairwise ltP → l.Perm m → l = m
  | [], m, _, _, pm => (List.Perm.nil_eq pm)
  | a :: l, [], _, _, pm => by have := pm.length_eq; simp at this
  | a :: l, b :: m, hl, hm, pm => by
    have ha := List.pairwise_cons.mp hl
    have hb := List.pairwise_cons.mp hm
    have e : a = b := by
      rcases List.mem_cons.mp (pm.mem_iff.mp List.mem_cons_self) with e | h1
      · exact e
      · rcases List.mem_cons.mp (pm.mem_iff.mpr List.mem_cons_self) with e | h2
        · exact e.symm
        · have q1 := hb.1 a h1
          have q2 := ha.1 b h2
          unfold ltP at q1 q2
          omega
    subst e
    rw [asc_unique ha.2 hb.2 (List.Perm.cons_inv pm)]
abbrev tSortC (K : PySem.W.Frag) (te : TE) : TE := tCB (rSortTT K 2 64) (tCons te tNil)
theorem tupI_of {a : Addr} {p : Pr} (h : Dp K H (.ref a) (pairD p)) : TupI K H (.ref a) [p.1, p.2] := by
  cases h with
  | tup hs hx =>
    cases hx with
    | cons x1 hx =>
      cases hx with
      | cons x2 hx =>
        cases hx
        cases x1
        cases x2
        exact ⟨a, rfl, hs⟩
/-- values standing for pairs: a permutation of them stands for a permutation of the pairs -/
theorem perm_pairs {l : List Pr} {xs ys : List V} (hx : DpAll K H xs (l.map pairD)) (pm : ys.Perm xs) : ∃ m : List Pr, m.Perm l ∧ DpAll K H ys (m.map pairD) := by
  induction pm generalizing l with
  | nil => exact ⟨l, .refl _, hx⟩
  | @cons y ys xs _ ih =>
    cases l with
    | nil => cases hx
    | cons p l =>
      cases hx with
      | cons h1 h2 =>
        obtain ⟨m, pm, hm⟩ := ih h2
        exact ⟨p :: m, pm.cons p, .cons h1 hm⟩
  | swap x y ys =>
    cases l with
    | nil => cases hx
    | cons p l =>
      cases hx with
      | cons h1 h2 =>
        cases l with
        | nil => cases h2
        | cons q l =>
          cases h2 with
          | cons h2 h3 => exact ⟨q :: p :: l, .swap _ _ _, .cons h2 (.cons h1 h3)⟩
  | trans _ _ ih1 ih2 =>
    obtain ⟨m, pm, hm⟩ := ih2 hx
    obtain ⟨m2, pm2, hm2⟩ := ih1 hm
    exact ⟨m2, pm2.trans pm, hm2⟩
theorem code_lt {p q : Pr} (h : TS.code 64 [p.1, p.2] ≤ TS.code 64 [q.1, q.2]) (ne : p ≠ q) (bp : (0 ≤ p.1 ∧ p.1 < 64) ∧ 0 ≤ p.2 ∧ p.2 < 64) (bq : (0 ≤ q.1 ∧ q.1 < 64) ∧ 0 ≤ q.2 ∧ q.2 < 64) : ltP p q :=
  pair_lt h (fun e => ne (by have e1 : p.1 = q.1 ∧ p.2 = q.2 := by simpa using e
                             exact Prod.ext e1.1 e1.2)) bp.1 bp.2 bq.1 bq.2
theorem asc_of_code : ∀ {m : List Pr} {ys : List V}, DpAll K H ys (m.map pairD) → ys.Pairwise (fun x y => ∀ n k, TupI K H x n → TupI K H y k → TS.code 64 n ≤ TS.code 64 k) → m.Nodup → (∀ p ∈ m, (0 ≤ p.1 ∧ p.1 < 64) ∧ 0 ≤ p.2 ∧ p.2 < 64) → m.Pairwise ltP
  | [], _, _, _, _, _ => .nil
  | p :: m, _, h, pw, nd, bd => by
    cases h with
    | @cons x _ xs _ h1 h2 =>
      obtain ⟨p1, p2⟩ := List.pairwise_cons.mp pw
      obtain ⟨n1, n2⟩ := List.nodup_cons.mp nd
      refine List.pairwise_cons.mpr ⟨fun q hq => ?_, asc_of_code h2 p2 n2 fun r hr => bd r (List.mem_cons_of_mem _ hr)⟩
      obtain ⟨i, hi, ei⟩ := List.mem_iff_getElem.mp (List.mem_map.mpr ⟨q, hq, rfl⟩ : pairD q ∈ m.map pairD)
      obtain ⟨y, hy, dy⟩ := dpAll_of h2 (show (m.map pairD)[i]? = some (pairD q) by rw [List.getElem?_eq_getElem hi, ei])
      have mem := List.mem_of_getElem? hy
      have rx : ∃ a, x = .ref a := by cases h1; exact ⟨_, rfl⟩
      have ry : ∃ a, y = .ref a := by cases dy; exact ⟨_, rfl⟩
      obtain ⟨a, rfl⟩ := rx
      obtain ⟨b, rfl⟩ := ry
      exact code_lt (p1 _ mem _ _ (tupI_of h1) (tupI_of dy)) (fun e => n1 (by rw [e]; exact hq)) (bd p List.mem_cons_self) (bd q (List.mem_cons_of_mem _ hq))
theorem em_sort {l a : List Pr} (hl : l.length < 64) (ha : Asc a) (pm : l.Perm a) (h : EvM te σ H (PS2 K none (l.map pairD))) : EvM (tSortC K te) σ H (PF K (a.map pairD)) := fun H1 e Q q =>
  h H1 e _ fun v H2 e2 pv => by
    have bd : ∀ p ∈ l, (0 ≤ p.1 ∧ p.1 < 64) ∧ 0 ≤ p.2 ∧ p.2 < 64 := fun p hp => ha.2 p (pm.mem_iff.mp hp)
    have fin : ∀ (b : Addr) (xs : List V), v = .ref b → (SqL K H2 b xs ∨ SqT K H2 b xs) → DpAll K H2 xs (l.map pairD) → rSortTT K 2 64 [v] H2 Q := fun b xs ev hs hx => by
      subst ev
      refine ⟨b, xs, rfl, hs, by rw [dpAll_len hx, List.length_map]; exact hl, fun x hm => ?_, fun ys p py pw hp => ?_⟩
      · obtain ⟨i, hi, ei⟩ := List.mem_iff_getElem.mp hm
        obtain ⟨d, hd, dx⟩ := dpAll_get hx (show xs[i]? = some x by rw [List.getElem?_eq_getElem hi, ei])
        obtain ⟨r, hr, rfl⟩ := List.mem_map.mp (List.mem_of_getElem? hd)
        have rx : ∃ a, x = .ref a := by cases dx; exact ⟨_, rfl⟩
        obtain ⟨c', rfl⟩ := rx
        refine ⟨_, tupI_of dx, rfl, fun m hm => ?_⟩
        have z := bd r hr
        rcases List.mem_cons.mp hm with rfl | hm
        · exact z.1
        · rw [List.mem_singleton.mp hm]
          exact z.2
      · obtain ⟨m, pm2, hm⟩ := perm_pairs hx py
        have nd : m.Nodup := (pm2.trans pm).nodup_iff.mpr (asc_nodup ha)
        have as := asc_of_code hm pw nd fun p hp => bd p (pm2.mem_iff.mp hp)
        have e3 := asc_unique as ha.1 (pm2.trans pm)
        rw [e3] at hm
        exact q _ _ (e2.trans (Gr.new hp)) (pf_new hp hm)
    rcases pv with pv | pv
    · cases pv with
      | tup hs hx => exact fin _ _ rfl (.inr hs) hx
    · cases pv with
      | lst hs hx => exact fin _ _ rfl (.inl hs) hx
end
end G

set_option maxHeartbeats 400000
/-! A frame: made, asked. -/
namespace G
open PySem PySem.Spec PyProof.Rows L2 Tp
/-- what the class of frames is -/
structure FrCls (K : PySem.W.Frag) (C : Addr) : Prop where
  cl : Cls K C
  n1 : NoAttr K C "width"
  n2 : NoAttr K C "inner"
  n3 : NoAttr K C "outer"
/-- what stands in a frame -/
def frF (w : Int) (vi vo : V) : List (Str × V) := [("width", .int w), ("inner", vi), ("outer", vo)]
def FrameAt (K : PySem.W.Frag) (C : Addr) (H : Hp) (x : Addr) (p : Plan) : Prop := ∃ dx vi vo, H x = some (.ins C dx (frF p.w vi vo)) ∧ Dp K H vi (.tuple (p.inn.map pairD)) ∧ Dp K H vo (.tuple (p.out.map pairD))
section
variable {K : PySem.W.Frag} {σ : L2.St} {H : Hp} {D : Vw} {C x : Addr} {te ta tb tc : TE}
theorem FrameAt.grow {p : Plan} {H' : Hp} (h : FrameAt K C H x p) (e : Gr H H') : FrameAt K C H' x p := by
  obtain ⟨dx, vi, vo, h1, h2, h3⟩ := h
  exact ⟨dx, vi, vo, e.ins h1, dp_gr e _ _ h2, dp_gr e _ _ h3⟩
theorem sqt_upN {a p : Addr} {o : HO} {xs : List V} (n : ∀ xs, ¬ Rd H p (.tup xs)) (h : SqT K H a xs) : SqT K (upd H p o) a xs := by
  have ne : ∀ ys, Rd H a (.tup ys) → a ≠ p := fun ys r z => n ys (by rw [← z]; exact r)
  rcases h with (h | ⟨u, h⟩) | h
  · exact .inl (.inl (by rw [upd_ne (ne _ (.inl h))]; exact h))
  · exact .inl (.inr ⟨u, by rw [upd_ne (ne _ (.inr ⟨u, h⟩))]; exact h⟩)
  · exact .inr h
mutual
theorem dp_upN {p : Addr} {o : HO} (np : ∀ xs, ¬ Rd H p (.tup xs)) : ∀ (d : PyData) (v : V), noL d = true → Dp K H v d → Dp K (upd H p o) v d
  | .none, _, _, h => by cases h; exact .non
  | .bool b, _, _, h => by cases h; exact .bl b
  | .int i, _, _, h => by cases h; exact .int i
  | .str x, _, _, h => by cases h; exact .str x
  | .list ds, _, n, h => by simp [noL] at n
  | .tuple ds, _, n, h => by
    cases h with
    | tup hs ha => exact .tup (sqt_upN np hs) (dpAll_upN np ds _ n ha)
  | .dict _, _, _, h => by cases h
theorem dpAll_upN {p : Addr} {o : HO} (np : ∀ xs, ¬ Rd H p (.tup xs)) : ∀ (ds : List PyData) (vs : List V), noL.noLs ds = true → DpAll K H vs ds → DpAll K (upd H p o) vs ds
  | [], _, _, h => by cases h; exact .nil
  | d :: ds, _, n, h => by
    rw [noL.noLs, Bool.and_eq_true] at n
    cases h with
    | cons h1 h2 => exact .cons (dp_upN np d _ n.1 h1) (dpAll_upN np ds _ n.2 h2)
end
theorem ins_notT {p C dx : Addr} {fs : List (Str × V)} (h : H p = some (.ins C dx fs)) : ∀ xs, ¬ Rd H p (.tup xs) := fun xs r => by
  rcases r with r | ⟨u, r⟩ <;> rw [h] at r <;> cases r
theorem gr_put {H H' : Hp} {x : Addr} {o : HO} (e : Gr (delH H x) H') : Gr (delH H x) (upd H' x o) := fun a u h => by
  have ne : a ≠ x := fun z => by rw [z, delH_same] at h; cases h
  rw [upd_ne ne]
  exact e a u h
/-- a field of a frame -/
theorem em_fld {dx : Addr} {fs : List (Str × V)} {f : Str} {v : V} {P : VP} (cl : Cls K C) (n : NoAttr K C f) (hl : fs.lookup f = some v) (hx : H x = some (.ins C dx fs)) (ht : EvM te σ H (fun u _ => u = .ref x)) (h : ∀ H', Gr H H' → P v H') : EvM (tFld K te f) σ H P := fun H1 e Q q =>
  ht H1 e _ fun u H2 e2 eu => ⟨x, C, dx, fs, v, eu, (e.trans e2).ins hx, cl, n, hl, q _ H2 e2 (h H2 (e.trans e2))⟩
theorem q_fld {dx : Addr} {fs : List (Str × V)} {f : Str} {P : VP} {E : Ends} {tz : TS} {i : Nat} (cl : Cls K C) (n : NoAttr K C f) (hf : fs.length < 1000) (hi : σ[i]? = some (some (.ref x))) (hx : H x = some (.ins C dx fs)) (h : EvM te σ H P)
    (k : ∀ v H1, Gr H H1 → P v H1 → H1 x = some (.ins C dx fs) → tz E σ (upd H1 x (.ins C dx (putF f v fs)))) : tSeq (sFld K (tVar i) te f) tz E σ H :=
  h H (Gr.refl H) _ fun v H1 e pv => ⟨_, hi, x, C, dx, fs, rfl, e.ins hx, cl, n, hf, k v H1 e pv (e.ins hx)⟩
theorem s_fld {dx : Addr} {fs : List (Str × V)} {f : Str} {P : VP} {E : Ends} {i : Nat} (cl : Cls K C) (n : NoAttr K C f) (hf : fs.length < 1000) (hi : σ[i]? = some (some (.ref x))) (hx : H x = some (.ins C dx fs)) (h : EvM te σ H P)
    (k : ∀ v H1, Gr H H1 → P v H1 → H1 x = some (.ins C dx fs) → E.nx σ (upd H1 x (.ins C dx (putF f v fs)))) : sFld K (tVar i) te f E σ H :=
  h H (Gr.refl H) _ fun v H1 e pv => ⟨_, hi, x, C, dx, fs, rfl, e.ins hx, cl, n, hf, k v H1 e pv (e.ins hx)⟩
abbrev NFr : List Str := ["self", "width", "inner", "outer"]
def t_frame (K : PySem.W.Frag) (tr1 tr2 tr3 : TS) : TS :=
  tSeq (tIfS (tOr (tNot (tB (tIsIntC K (tVar 1)))) (tNot (tTest (tChain rLe rLe (c 1) (tVar 1) (c 3))))) tr1 tNext)
  (tSeq (tIfS (tNot (tB (tInnerC K (tVar 2) (tVar 1)))) tr2 tNext)
  (tSeq (tIfS (tNot (tB (tOuterC K (tVar 3) (tVar 1)))) tr3 tNext)
  (tSeq (sFld K (tVar 0) (tVar 1) "width")
  (tSeq (sFld K (tVar 0) (tCB (rTupOf K) (tCons (tSortC K (tVar 2)) tNil)) "inner")
  (sFld K (tVar 0) (tCB (rTupOf K) (tCons (tSortC K (tVar 3)) tNil)) "outer")))))
/-- pairs handed in, in any sequence, in a list or a tuple -/
def Hands (K : PySem.W.Frag) (H : Hp) (v : V) (a : List Pr) : Prop := ∃ l : List Pr, l.Perm a ∧ (Dp K H v (.tuple (l.map pairD)) ∨ Dp K H v (.list (l.map pairD)))
theorem Hands.grow {v : V} {a : List Pr} {H' : Hp} (h : Hands K H v a) (e : Gr H H') : Hands K H' v a := by
  obtain ⟨l, pm, h⟩ := h
  exact ⟨l, pm, h.imp (dp_gr e _ _) (dp_gr e _ _)⟩
def spFrame (K : PySem.W.Frag) (C : Addr) : Sp := fun vs H Q _ => ∃ (x dx : Addr) (vi vo : V) (p : Plan), vs = [.ref x, .int p.w, vi, vo] ∧ p.Ok ∧ H x = some (.ins C dx []) ∧ Hands K (delH H x) vi p.inn ∧ Hands K (delH H x) vo p.out ∧
  ∀ H', Gr (delH H x) H' → FrameAt K C H' x p → Q .non H'
theorem side_sub (w : Nat) : (sideP w).Sublist (gridP w w) := List.filter_sublist
theorem grid_asc : ∀ w : Nat, w ≤ 3 → Asc (gridP w w) := by
  intro w hw
  have h : ∀ w : Fin 4, (gridP w w).Pairwise (fun p q => p.1 < q.1 ∨ (p.1 = q.1 ∧ p.2 < q.2)) ∧ ∀ p ∈ gridP w w, (0 ≤ p.1 ∧ p.1 < 64) ∧ 0 ≤ p.2 ∧ p.2 < 64 := by decide +kernel
  exact h ⟨w, by omega⟩
theorem grid_in : ∀ w : Nat, w ≤ 3 → ∀ p ∈ gridP w w, pairB (pairD p) w = true := by
  intro w hw
  have h : ∀ w : Fin 4, ∀ p ∈ gridP w w, pairB (pairD p) (w : Nat) = true := by decide +kernel
  exact h ⟨w, by omega⟩
theorem Asc.sub {l m : List Pr} (h : Asc m) (s : l.Sublist m) : Asc l := ⟨h.1.sublist s, fun p hp => h.2 p (s.subset hp)⟩
theorem grid_small : ∀ w : Nat, w ≤ 3 → (gridP w w).length < 64 := by
  intro w hw
  rw [gridP_len]
  exact Nat.lt_of_le_of_lt (Nat.mul_le_mul hw hw) (by decide)
theorem toPr_pairs (l : List Pr) : (l.map pairD).map toPr = l := by
  rw [List.map_map]
  exact List.map_id'' (fun p => rfl) l
/-- what is told of the pairs of a plan -/
theorem outer_ok {d : PyData} {l a : List Pr} {w : Nat} (hw : w ≤ 3) (s : a.Sublist (gridP w w)) (pm : l.Perm a) (hd : itemsD d = some (l.map pairD)) : outerB d w = true := by
  unfold outerB
  rw [hd]
  simp only [Bool.and_eq_true, decide_eq_true_eq, List.all_eq_true]
  refine ⟨fun x hx => ?_, ?_⟩
  · obtain ⟨p, hp, rfl⟩ := List.mem_map.mp hx
    exact grid_in w hw p (s.subset (pm.mem_iff.mp hp))
  · rw [toPr_pairs]
    exact pm.nodup_iff.mpr (asc_nodup ((grid_asc w hw).sub s))
theorem inner_ok {d : PyData} {l a : List Pr} {w : Nat} (hw : w ≤ 3) (s : a.Sublist (sideP w)) (pm : l.Perm a) (hd : itemsD d = some (l.map pairD)) : innerB d w = true := by
  have z := outer_ok hw (s.trans (side_sub w)) pm hd
  unfold innerB
  rw [hd, z]
  simp only [Bool.true_and, List.all_eq_true]
  intro x hx
  obtain ⟨p, hp, rfl⟩ := List.mem_map.mp hx
  exact (List.mem_filter.mp (s.subset (pm.mem_iff.mp hp))).2
theorem hands_data {v : V} {a : List Pr} (h : Hands K H v a) : ∃ (d : PyData) (l : List Pr), l.Perm a ∧ itemsD d = some (l.map pairD) ∧ Dp K H v d ∧ (Dp K H v (.tuple (l.map pairD)) ∨ Dp K H v (.list (l.map pairD))) := by
  obtain ⟨l, pm, h⟩ := h
  rcases h with h | h
  · exact ⟨_, l, pm, rfl, h, .inl h⟩
  · exact ⟨_, l, pm, rfl, h, .inr h⟩
theorem pure_frame {tr1 tr2 tr3 : TS} (FC : FrCls K C) (vs : List V) (H : Hp) (Q : VK) (E : XK) (h : spFrame K C vs H Q E) : t_frame K tr1 tr2 tr3 { nx := fun _ H' => Q .non H', rt := Q } (start NFr vs) H := by
  obtain ⟨x, dx, vi, vo, p, rfl, ⟨w, hw, h1, h3, si, so⟩, hx, hi, ho, k⟩ := h
  obtain ⟨di, li, pi_, ei, dpi, ali⟩ := hands_data hi
  obtain ⟨d0, lo, po, eo, dpo, alo⟩ := hands_data ho
  have sg : p.inn.Sublist (gridP w w) := si.trans (side_sub w)
  have li64 : li.length < 64 := by
    rw [pi_.length_eq]
    exact Nat.lt_of_le_of_lt sg.length_le (grid_small w h3)
  have lo64 : lo.length < 64 := by
    rw [po.length_eq]
    exact Nat.lt_of_le_of_lt so.length_le (grid_small w h3)
  have few : ∀ {d : PyData} {l : List Pr}, itemsD d = some (l.map pairD) → l.length < 64 → ∀ ds, itemsD d = some ds → ds.length < 64 := fun e h ds e' => by
    rw [e] at e'
    cases e'
    rw [List.length_map]
    exact h
  have sti : Stay K H vi di := stay_dp (dp_gr gr_del _ _ dpi)
  have sto : Stay K H vo d0 := stay_dp (dp_gr gr_del _ _ dpo)
  unfold t_frame
  rw [hw]
  have int_em : ∀ {H' : Hp}, EvM (tVar 1) (start NFr [V.ref x, V.int (w : Int), vi, vo]) H' (fun v _ => v = .int (w : Int)) := em_var rfl fun _ _ => rfl
  have tst := et_or (b := !(decide (1 ≤ (w : Int)) && decide ((w : Int) ≤ 3))) (et_not (et_B (em_isInt (K := K) (d := .int (w : Int)) (σ := start NFr [V.ref x, V.int (w : Int), vi, vo]) (H := H) (te := tVar 1) (em_stay2 rfl (stay_dp (.int _)))))) fun _ => et_not (et_test (em_chain (f := fun i j => decide (i ≤ j)) (g := fun i j => decide (i ≤ j)) em_ci int_em (em_ci (i := 3))))
  have z1 : (!isIntD (.int (w : Int)) || !(decide (1 ≤ (w : Int)) && decide ((w : Int) ≤ 3))) = false := by
    have a1 : (1 : Int) ≤ w := by omega
    have a2 : (w : Int) ≤ 3 := by omega
    simp [isIntD, a1, a2]
  rw [z1] at tst
  refine q_no tst fun H1 e1 => ?_
  have t2 := et_not (et_B (em_inner (K := K) (σ := start NFr [V.ref x, V.int (w : Int), vi, vo]) (H := H1) (ta := tVar 2) (tb := tVar 1) (few ei li64) (em_stay2 rfl (sti.grow e1)) int_em))
  rw [inner_ok h3 si pi_ ei] at t2
  refine q_no t2 fun H2 e2 => ?_
  have t3 := et_not (et_B (em_outer (K := K) (σ := start NFr [V.ref x, V.int (w : Int), vi, vo]) (H := H2) (ta := tVar 3) (tb := tVar 1) (few eo lo64) (em_stay2 rfl (sto.grow (e1.trans e2))) int_em))
  rw [outer_ok h3 so po eo] at t3
  refine q_no t3 fun H3 e3 => ?_
  have e03 := (e1.trans e2).trans e3
  have b3 : Gr (delH H x) H3 := gr_del.trans e03
  refine q_fld FC.cl FC.n1 (by decide) rfl (e03.ins hx) int_em fun v4 H4 e4 ev4 hx4 => ?_
  subst ev4
  have b5 : Gr (delH H x) (upd H4 x (.ins C dx (putF "width" (.int (w : Int)) []))) := gr_put (b3.trans e4)
  refine q_fld (P := PP K none (.tuple (p.inn.map pairD))) FC.cl FC.n2 (by show 1 < 1000; decide) rfl upd_same (em_tupOf On.none (em_imp (em_sort li64 ((grid_asc w h3).sub sg) pi_ (em_vP grows_PS2 (i := 2) rfl (ali.imp (dp_gr b5 _ _) (dp_gr b5 _ _)))) fun _ _ _ h => pf_pp h)) fun v6 H6 e6 p6 hx6 => ?_
  have b7 := gr_put (o := .ins C dx (putF "inner" v6 (putF "width" (.int (w : Int)) []))) (b5.trans e6)
  have p7 : Dp K (upd H6 x (.ins C dx (putF "inner" v6 (putF "width" (.int (w : Int)) [])))) v6 (.tuple (p.inn.map pairD)) := dp_upN (ins_notT hx6) _ _ (noL_pairs _) p6
  refine s_fld (P := PP K none (.tuple (p.out.map pairD))) FC.cl FC.n3 (by show 2 < 1000; decide) rfl upd_same (em_tupOf On.none (em_imp (em_sort lo64 ((grid_asc w h3).sub so) po (em_vP grows_PS2 (i := 3) rfl (alo.imp (dp_gr b7 _ _) (dp_gr b7 _ _)))) fun _ _ _ h => pf_pp h)) fun v8 H8 e8 p8 hx8 => ?_
  refine k _ (gr_put (b7.trans e8)) ⟨dx, v6, v8, ?_, dp_upN (ins_notT hx8) _ _ (noL_pairs _) (dp_gr e8 _ _ p7), dp_upN (ins_notT hx8) _ _ (noL_pairs _) p8⟩
  rw [upd_same, hw]
  rfl
end
end G

set_option maxHeartbeats 400000
/-! What a frame tells; when two are equal. -/
namespace G
open PySem PySem.Spec PyProof.Rows L2 Tp
section
variable {K : PySem.W.Frag} {σ : L2.St} {H : Hp} {D : Vw} {C x : Addr} {te ta tb tc tl : TE} {tt : TT} {g : TG} {vs : List Nat}
abbrev gPair (K : PySem.W.Frag) (i j : Nat) : TG := gTup K 2 (gCons (gName i) (gCons (gName j) gNil))
theorem tg_pair {D : Addr} {y : V} {p : Pr} {i j : Nat} (h : Dp K (delH H D) y (pairD p)) (Q : L2.St → Hp → Prop) (q : Q ((σ.set i (some (.int p.1))).set j (some (.int p.2))) H) : gPair K i j y σ H Q := by
  cases h with
  | tup hs hx =>
    cases hx with
    | cons x1 hx =>
      cases hx with
      | cons x2 hx =>
        cases hx
        cases x1
        cases x2
        exact ⟨_, _, rfl, gr_del.sqt hs, rfl, _, _, rfl, _, _, rfl, rfl, q⟩
theorem filter_pairs {l : List Pr} {pr : Pr → Bool} {f : Pr → Int} : ((l.map pairD).filter fun d => pr (toPr d)).map (fun d => PyData.int (f (toPr d))) = ((l.filter pr).map f).map PyData.int := by
  rw [filter_map, List.map_map, List.map_map]
  rfl
/-- [f(a, b) for a, b in pairs if ..] -/
theorem em_pairsC {l : List Pr} {i j : Nat} (pr : Pr → Bool) (f : Pr → Int) (hl : l.length ≤ 1000) (h : EvM tl σ H (PP K none (.tuple (l.map pairD)))) (wp : ∀ a b, wipe (((wipe σ vs).set i (some a)).set j (some b)) vs = wipe σ vs)
    (ht : ∀ (p : Pr) (H1 : Hp), EvT tt (((wipe σ vs).set i (some (.int p.1))).set j (some (.int p.2))) H1 (· = pr p)) (hf : ∀ (p : Pr) (H1 : Hp), EvM te (((wipe σ vs).set i (some (.int p.1))).set j (some (.int p.2))) H1 (fun v _ => v = .int (f p))) :
    EvM (tLc (iTup K tl) (gPair K i j) tt te vs) σ H (PF K (((l.filter pr).map f).map PyData.int)) := by
  have m := em_filtT (K := K) (σ := σ) (H := H) (vs := vs) (g := gPair K i j) (tt := tt) (te := te) (tl := tl) (fun d => pr (toPr d)) (fun d => .int (f (toPr d))) (by rw [List.length_map]; exact hl) h (fun D d y H1 hD e hd px => by
    obtain ⟨p, _, rfl⟩ := List.mem_map.mp hd
    exact ⟨_, fun Q q => tg_pair px Q q, wp _ _, ht p H1, fun _ => em_imp (hf p H1) fun _ _ _ ev => by subst ev; exact .int _⟩)
  rw [filter_pairs] at m
  exact m
def onL (l : List Pr) (r : Int) : List Int := (l.filter fun p => decide (p.1 = r)).map (·.2)
def backL (l : List Pr) (r : Int) : List Int := (l.filter fun p => decide (p.2 = r)).map (·.1)
def besideL (l : List Pr) (r : Int) : List Int := backL l r ++ onL l r
def tupI (l : List Int) : PyData := .tuple (l.map PyData.int)
abbrev NBes : List Str := ["self", "row", "above", "below", "a", "b"]
abbrev NOn : List Str := ["self", "row", "a", "b"]
abbrev tFr (K : PySem.W.Frag) (f : Str) : TE := tFld K (tVar 0) f
abbrev tEqv (i : Nat) (j : Nat) : TT := tTest (tOp rEq (tVar i) (tVar j))
def t_bes (K : PySem.W.Frag) : TS :=
  tSeq (tAsg (tLc (iTup K (tFr K "inner")) (gPair K 4 5) (tEqv 5 1) (tVar 4) [4, 5]) (gName 2))
  (tSeq (tAsg (tLc (iTup K (tFr K "inner")) (gPair K 4 5) (tEqv 4 1) (tVar 5) [4, 5]) (gName 3))
  (tRet (tCB (rTupOf K) (tCons (tOp rCat (tVar 2) (tVar 3)) tNil))))
def t_on (K : PySem.W.Frag) : TS := tRet (tCB (rTupOf K) (tCons (tLc (iTup K (tFr K "outer")) (gPair K 2 3) (tEqv 2 1) (tVar 3) [2, 3]) tNil))
def t_back (K : PySem.W.Frag) : TS := tRet (tCB (rTupOf K) (tCons (tLc (iTup K (tFr K "outer")) (gPair K 2 3) (tEqv 3 1) (tVar 2) [2, 3]) tNil))
def spRow (K : PySem.W.Frag) (C : Addr) (tell : Plan → Int → List Int) : Sp := fun vs H Q _ => ∃ (x : Addr) (p : Plan) (r : Int), vs = [.ref x, .int r] ∧ FrameAt K C H x p ∧ p.inn.length ≤ 100 ∧ p.out.length ≤ 100 ∧ ∀ v H', Gr H H' → Dp K H' v (tupI (tell p r)) → Q v H'
theorem em_frI (FC : FrCls K C) {p : Plan} {i : Nat} (hi : σ[i]? = some (some (.ref x))) (h : FrameAt K C H x p) : EvM (tFld K (tVar i) "inner") σ H (PP K none (.tuple (p.inn.map pairD))) := by
  obtain ⟨dx, vi, vo, h1, h2, h3⟩ := h
  exact em_fld FC.cl FC.n2 rfl h1 (em_var hi fun _ _ => rfl) fun H' e => dp_gr e _ _ h2
theorem em_frO (FC : FrCls K C) {p : Plan} {i : Nat} (hi : σ[i]? = some (some (.ref x))) (h : FrameAt K C H x p) : EvM (tFld K (tVar i) "outer") σ H (PP K none (.tuple (p.out.map pairD))) := by
  obtain ⟨dx, vi, vo, h1, h2, h3⟩ := h
  exact em_fld FC.cl FC.n3 rfl h1 (em_var hi fun _ _ => rfl) fun H' e => dp_gr e _ _ h3
theorem em_frW (FC : FrCls K C) {p : Plan} {i : Nat} (hi : σ[i]? = some (some (.ref x))) (h : FrameAt K C H x p) : EvM (tFld K (tVar i) "width") σ H (fun v _ => v = .int p.w) := by
  obtain ⟨dx, vi, vo, h1, h2, h3⟩ := h
  exact em_fld FC.cl FC.n1 rfl h1 (em_var hi fun _ _ => rfl) fun _ _ => rfl
theorem et_ii {i j : Nat} {a b : Int} (hi : σ[i]? = some (some (.int a))) (hj : σ[j]? = some (some (.int b))) : EvT (tEqv i j) σ H (· = decide (a = b)) := et_test (em_eqI (em_var hi fun _ _ => rfl) (em_var hj fun _ _ => rfl))
theorem pure_bes (FC : FrCls K C) (vs : List V) (H : Hp) (Q : VK) (E : XK) (h : spRow K C (fun p r => besideL p.inn r) vs H Q E) : t_bes K { nx := fun _ H' => Q .non H', rt := Q } (start NBes vs) H := by
  obtain ⟨x, p, r, rfl, hf, l1, l2, k⟩ := h
  unfold t_bes
  refine q_asg (P := PF K ((backL p.inn r).map PyData.int)) (em_pairsC (i := 4) (j := 5) (fun p => decide (p.2 = r)) (·.1) (by omega) (em_frI FC rfl hf) (fun _ _ => rfl) (fun _ _ => et_ii rfl rfl) (fun _ _ => em_var rfl fun _ _ => rfl)) fun v1 H1 e1 p1 => ?_
  refine q_asg (P := PF K ((onL p.inn r).map PyData.int)) (em_pairsC (i := 4) (j := 5) (fun p => decide (p.1 = r)) (·.2) (by omega) (em_frI FC rfl (hf.grow e1)) (fun _ _ => rfl) (fun _ _ => et_ii rfl rfl) (fun _ _ => em_var rfl fun _ _ => rfl)) fun v2 H2 e2 p2 => ?_
  refine q_ret (P := PP K none (tupI (besideL p.inn r))) (em_tupOf On.none ?_) fun v3 H3 e3 p3 => k v3 H3 ((e1.trans e2).trans e3) p3
  have m := em_cat (em_vP (i := 2) (σ := [some (V.ref x), some (.int r), some v1, some v2, none, none]) grows_PF rfl (grows_PF _ _ _ e2 p1)) (em_vP (i := 3) grows_PF rfl p2) (by
    have a1 : (backL p.inn r).length ≤ p.inn.length := by unfold backL; rw [List.length_map]; exact List.length_filter_le _ _
    have a2 : (onL p.inn r).length ≤ p.inn.length := by unfold onL; rw [List.length_map]; exact List.length_filter_le _ _
    rw [List.length_map, List.length_map]
    omega)
  rw [← List.map_append] at m
  exact em_imp m fun _ _ _ h => pf_pp h
theorem pure_on (FC : FrCls K C) (vs : List V) (H : Hp) (Q : VK) (E : XK) (h : spRow K C (fun p r => onL p.out r) vs H Q E) : t_on K { nx := fun _ H' => Q .non H', rt := Q } (start NOn vs) H := by
  obtain ⟨x, p, r, rfl, hf, l1, l2, k⟩ := h
  unfold t_on
  refine q_ret (P := PP K none (tupI (onL p.out r))) (em_tupOf On.none (em_imp (em_pairsC (i := 2) (j := 3) (fun p => decide (p.1 = r)) (·.2) (by omega) (em_frO FC rfl hf) (fun _ _ => rfl) (fun _ _ => et_ii rfl rfl) (fun _ _ => em_var rfl fun _ _ => rfl)) fun _ _ _ h => pf_pp h)) fun v3 H3 e3 p3 => k v3 H3 e3 p3
theorem pure_back (FC : FrCls K C) (vs : List V) (H : Hp) (Q : VK) (E : XK) (h : spRow K C (fun p r => backL p.out r) vs H Q E) : t_back K { nx := fun _ H' => Q .non H', rt := Q } (start NOn vs) H := by
  obtain ⟨x, p, r, rfl, hf, l1, l2, k⟩ := h
  unfold t_back
  refine q_ret (P := PP K none (tupI (backL p.out r))) (em_tupOf On.none (em_imp (em_pairsC (i := 2) (j := 3) (fun p => decide (p.2 = r)) (·.1) (by omega) (em_frO FC rfl hf) (fun _ _ => rfl) (fun _ _ => et_ii rfl rfl) (fun _ _ => em_var rfl fun _ _ => rfl)) fun _ _ _ h => pf_pp h)) fun v3 H3 e3 p3 => k v3 H3 e3 p3
end
/-! == -/
mutual
def intT : PyData → Bool
  | .int _ => true
  | .list ds | .tuple ds => intTs ds
  | _ => false
def intTs : List PyData → Bool
  | [] => true
  | d :: ds => intT d && intTs ds
end
mutual
theorem eqv_iff : ∀ d e : PyData, intT d = true → intT e = true → (PyData.eqv d e = true ↔ d = e)
  | .int i, .int j, _, _ => by simp [PyData.eqv]
  | .int i, .list es, _, _ => by simp [PyData.eqv]
  | .int i, .tuple es, _, _ => by simp [PyData.eqv]
  | .list ds, .int j, _, _ => by simp [PyData.eqv]
  | .tuple ds, .int j, _, _ => by simp [PyData.eqv]
  | .list ds, .tuple es, _, _ => by simp [PyData.eqv]
  | .tuple ds, .list es, _, _ => by simp [PyData.eqv]
  | .list ds, .list es, h1, h2 => by
    rw [PyData.eqv, eqvAll_iff ds es (by simpa [intT] using h1) (by simpa [intT] using h2)]
    simp
  | .tuple ds, .tuple es, h1, h2 => by
    rw [PyData.eqv, eqvAll_iff ds es (by simpa [intT] using h1) (by simpa [intT] using h2)]
    simp
  | .none, _, h, _ => by simp [intT] at h
  | .bool _, _, h, _ => by simp [intT] at h
  | .str _, _, h, _ => by simp [intT] at h
  | .dict _, _, h, _ => by simp [intT] at h
  | _, .none, _, h => by simp [intT] at h
  | _, .bool _, _, h => by simp [intT] at h
  | _, .str _, _, h => by simp [intT] at h
  | _, .dict _, _, h => by simp [intT] at h
theorem eqvAll_iff : ∀ ds es : List PyData, intTs ds = true → intTs es = true → (PyData.eqvAll ds es = true ↔ ds = es)
  | [], [], _, _ => by simp [PyData.eqvAll]
  | [], e :: es, _, _ => by simp [PyData.eqvAll]
  | d :: ds, [], _, _ => by simp [PyData.eqvAll]
  | d :: ds, e :: es, h1, h2 => by
    rw [intTs, Bool.and_eq_true] at h1 h2
    rw [PyData.eqvAll, Bool.and_eq_true, eqv_iff d e h1.1 h2.1, eqvAll_iff ds es h1.2 h2.2]
    simp
end
end G

set_option maxHeartbeats 400000
/-! Frames made and compared. -/
namespace G
open PySem PySem.Spec PyProof.Rows L2 Tp
def PFr (K : PySem.W.Frag) (C : Addr) (p : Plan) : VP := fun v H => ∃ x, v = .ref x ∧ FrameAt K C H x p
/-- what isinstance and == ask of the class of frames -/
structure FrIs (K : PySem.W.Frag) (C : Addr) : Prop where
  cl : Cls K C
  ha : PySem.W.findIn K (.ref C) "__class__" = some (some (.builtin "object.__class__"))
  hn : PySem.W.specialIn K (.builtin "object.__class__") "__get__" = some (some (.builtin "getset_descriptor.__get__"))
  tk : PySem.W.takesIn K (.builtin "object.__class__") = some true
  mo : PySem.W.mroIn K C (.type "object") = some true
  kd : ∀ d, PySem.W.kitOne K (.type (tyD d)) (.ref C) = some false
  kc : PySem.W.kitOne K (.ref C) (.ref C) = some true
  nd : ∀ d, PySem.W.notFirst K C (.type (tyD d)) = true
section
variable {K : PySem.W.Frag} {σ : L2.St} {H : Hp} {D : Vw} {C x : Addr} {te ta tb tc tl : TE}
theorem grows_PFr {p : Plan} : Grows (PFr K C p) := fun _ _ _ e ⟨x, h1, h2⟩ => ⟨x, h1, h2.grow e⟩
theorem fr_ty (FI : FrIs K C) {p : Plan} (h : FrameAt K C H x p) : TyX K H (.ref x) (.ref C) := by
  obtain ⟨dx, vi, vo, h1, _⟩ := h
  exact .base (.ins h1 FI.cl FI.ha FI.hn FI.tk FI.mo)
theorem nc : PySem.W.notFirst K C (.ref C) = true := by
  unfold PySem.W.notFirst
  simp
/-- what a value beside a frame is: a frame, or data -/
def Beside (K : PySem.W.Frag) (C : Addr) (H : Hp) (v : V) (o : Option Plan) : Prop := match o with
  | some q => ∃ y, v = .ref y ∧ FrameAt K C H y q
  | none => ∃ d, Stay K H v d
theorem Beside.grow {v : V} {o : Option Plan} {H' : Hp} (h : Beside K C H v o) (e : Gr H H') : Beside K C H' v o := by
  cases o with
  | some q =>
    obtain ⟨y, h1, h2⟩ := h
    exact ⟨y, h1, h2.grow e⟩
  | none =>
    obtain ⟨d, h1⟩ := h
    exact ⟨d, h1.grow e⟩
def sameP (p q : Plan) : Bool := decide (p.w = q.w) && (decide (p.inn = q.inn) && decide (p.out = q.out))
def sameO (p : Plan) (o : Option Plan) : Bool := match o with
  | some q => sameP p q
  | none => false
abbrev NEq : List Str := ["self", "other"]
def t_eqF (K : PySem.W.Frag) (C : Addr) : TS :=
  tRet (tAndV (tCB (rIsi K) (tCons (tVar 1) (tCons (tC (.ref C)) tNil))) (tAndV (tOp rEq (tFld K (tVar 0) "width") (tFld K (tVar 1) "width"))
    (tAndV (tOp (rEqD K) (tFld K (tVar 0) "inner") (tFld K (tVar 1) "inner")) (tOp (rEqD K) (tFld K (tVar 0) "outer") (tFld K (tVar 1) "outer")))))
def spFEq (K : PySem.W.Frag) (C : Addr) : Sp := fun vs H Q _ => ∃ (x : Addr) (v : V) (p : Plan) (o : Option Plan), vs = [.ref x, v] ∧ FrameAt K C H x p ∧ Beside K C H v o ∧ ∀ H', Gr H H' → Q (.bl (sameO p o)) H'
theorem intTs_pairs : ∀ l : List Pr, intTs (l.map pairD) = true
  | [] => rfl
  | p :: l => by
    rw [List.map_cons, intTs, intTs_pairs l]
    rfl
theorem pairD_inj {p q : Pr} (h : pairD p = pairD q) : p = q := by
  unfold pairD at h
  simp at h
  exact Prod.ext h.1 h.2
theorem map_pairs_inj : ∀ {l m : List Pr}, l.map pairD = m.map pairD → l = m
  | [], [], _ => rfl
  | [], _ :: _, h => by simp at h
  | _ :: _, [], h => by simp at h
  | p :: l, q :: m, h => by
    simp only [List.map_cons, List.cons.injEq] at h
    rw [pairD_inj h.1, map_pairs_inj h.2]
theorem eqv_pairs (l m : List Pr) : PyData.eqv (.tuple (l.map pairD)) (.tuple (m.map pairD)) = decide (l = m) := by
  rw [Bool.eq_iff_iff, eqv_iff _ _ (by rw [intT]; exact intTs_pairs l) (by rw [intT]; exact intTs_pairs m), decide_eq_true_eq]
  exact ⟨fun h => map_pairs_inj (by injection h), fun h => by rw [h]⟩
theorem em_eqPairs {l m : List Pr} (ha : EvM ta σ H (PP K none (.tuple (l.map pairD)))) (hb : EvM tb σ H (PP K none (.tuple (m.map pairD)))) : EvM (tOp (rEqD K) ta tb) σ H (fun v _ => v = .bl (decide (l = m))) := by
  have z := em_eqD ha hb (shaped_tup (items_pairs l)) (shaped_tup (items_pairs m))
  rw [eqv_pairs] at z
  exact z
theorem pure_eqF (FC : FrCls K C) (FI : FrIs K C) (vs : List V) (H : Hp) (Q : VK) (E : XK) (h : spFEq K C vs H Q E) : t_eqF K C { nx := fun _ H' => Q .non H', rt := Q } (start NEq vs) H := by
  obtain ⟨x, v, p, o, rfl, hx, hv, k⟩ := h
  unfold t_eqF
  have isi : EvM (tCB (rIsi K) (tCons (tVar 1) (tCons (tC (.ref C)) tNil))) (start NEq [.ref x, v]) H (fun u _ => u = .bl o.isSome) := fun H1 e Q q => ⟨v, rfl, by
    have hv1 := hv.grow e
    cases o with
    | some q' =>
      obtain ⟨y, rfl, hy⟩ := hv1
      exact ⟨_, .ref C, .ref C, .ref C, true, rfl, .own C, fr_ty FI hy, FI.kc, q _ H1 (Gr.refl H1) rfl⟩
    | none =>
      obtain ⟨d, hd⟩ := hv1
      exact ⟨_, .ref C, .type (tyD d), .ref C, false, rfl, .own C, dat_ty (hd H1 (Gr.refl H1)), FI.kd d, q _ H1 (Gr.refl H1) rfl⟩⟩
  refine q_ret (P := fun u _ => u = .bl (o.isSome && sameO p o)) (em_andV isi fun z => ?_) fun u H1 e eu => ?_
  · obtain ⟨q, rfl⟩ := Option.isSome_iff_exists.mp z
    obtain ⟨y, rfl, hy⟩ := hv
    exact em_andV (em_eqI (em_frW FC rfl hx) (em_frW FC rfl hy)) fun _ => em_andV (em_eqPairs (em_frI FC rfl hx) (em_frI FC rfl hy)) fun _ => em_eqPairs (em_frO FC rfl hx) (em_frO FC rfl hy)
  · subst eu
    have y : (o.isSome && sameO p o) = sameO p o := by cases o <;> simp [sameO]
    rw [y]
    exact k H1 e
/-- == of a frame and a value -/
theorem em_eqFr (FI : FrIs K C) {p : Plan} {o : Option Plan} (ha : EvM ta σ H (PFr K C p)) (hb : EvM tb σ H (fun v H' => Beside K C H' v o)) : EvM (tOp (rEqF K C (spFEq K C)) ta tb) σ H (fun v _ => v = .bl (sameO p o)) := fun H1 e Q q =>
  ha H1 e _ fun v H2 e2 ⟨x, ev, hx⟩ => hb H2 (e.trans e2) _ fun u H3 e3 hu => by
    have hx3 := hx.grow e3
    obtain ⟨dx, vi, vo, at_, _⟩ := id hx3
    have fin : spFEq K C [v, u] H3 (fun w H' => ∃ b, w = .bl b ∧ Q w H') E0 := ⟨x, u, p, o, by rw [ev], hx3, hu, fun H4 e4 => ⟨_, rfl, q _ H4 ((e2.trans e3).trans e4) rfl⟩⟩
    cases o with
    | some q' =>
      obtain ⟨y, rfl, hy⟩ := id hu
      exact ⟨x, dx, _, .ref C, ev, at_, fr_ty FI hy, nc, fin⟩
    | none =>
      obtain ⟨d, hd⟩ := id hu
      exact ⟨x, dx, _, .type (tyD d), ev, at_, dat_ty (hd H3 (Gr.refl H3)), FI.nd d, fin⟩
/-- Frame(w, inner=.., outer=..) -/
theorem em_mk {gV : List V → List V → List V} {p : Plan} {m : Nat} {tk : TA} (hp : p.Ok) (ha : EvM ta σ H (fun v _ => v = .int p.w)) (hk : EvMs tk σ H [fun _ _ => True, fun _ _ => True] → True)
    (tkw : ∀ H1, Gr H H1 → ∀ Q : List V → Hp → Prop, (∀ zs H2 vi vo, Gr H1 H2 → zs.length = m → (∀ x, gV [x, .int p.w] zs = [x, .int p.w, vi, vo]) → Hands K H2 vi p.inn → Hands K H2 vo p.out → Q zs H2) → tk σ H1 Q) :
    EvM (tMakeK C 1 m (spFrame K C) gV E0 (tCons ta tNil) tk) σ H (fun v H' => ∃ x, v = .ref x ∧ H x = none ∧ FrameAt K C H' x p) := fun H1 e Q q =>
  ha H1 e _ fun v H2 e2 ev => tkw H2 (e.trans e2) _ fun zs H3 vi vo e3 hz hg hi ho => ⟨rfl, hz, fun x dx nx ndx ne => by
    subst ev
    have g0 : Gr H3 (upd (upd H3 dx (.own x)) x (.ins C dx [])) := (Gr.new ndx).write nx
    have g1 : Gr H3 (delH (upd (upd H3 dx (.own x)) x (.ins C dx [])) x) := gr_del2 nx g0
    exact ⟨x, dx, vi, vo, p, hg _, hp, upd_same, hi.grow g1, ho.grow g1, fun H4 e4 fr => ⟨rfl, q _ H4 ((e2.trans e3).trans (g1.trans e4)) ⟨x, rfl, ((e.trans e2).trans e3).back nx, fr⟩⟩⟩⟩
end
end G

set_option maxHeartbeats 400000
/-! Abstract values and what a def's slots hold: readings, without the heap. -/
namespace G.J
open PySem PySem.Spec PyProof.Rows L2 Tp G
/-- an abstract value: what a value stands for, for good -/
structure AV where
  P : VP
  g : Grows P
/-- a thing that no tuple leans on -/
def IsH (o : HO) : Prop := (∃ xs, o = .lst xs) ∨ (∃ k, o = .dT k) ∨ (∃ k, o = .dK k) ∨ ∃ C dx fs, o = .ins C dx fs
def Hid (H : Hp) (p : Addr) : Prop := ∃ o, H p = some o ∧ IsH o
theorem Hid.ne {H : Hp} {p : Addr} (h : Hid H p) : H p ≠ none := by
  obtain ⟨o, h, _⟩ := h
  rw [h]
  simp
theorem Hid.grow {H H' : Hp} {p : Addr} (h : Hid H p) (g : Gr H H') : Hid H' p := by
  obtain ⟨o, h, i⟩ := h
  rcases g p o h with h | ⟨_, o', h, d, m, e, _⟩
  · exact ⟨o, h, i⟩
  · exact ⟨o', h, .inr (.inr (.inl ⟨_, e⟩))⟩
theorem Hid.upd {H : Hp} {p q : Addr} {o : HO} (h : Hid H q) (ho : IsH o) : Hid (L2.upd H p o) q := by
  by_cases z : q = p
  · subst z
    exact ⟨o, upd_same, ho⟩
  · obtain ⟨u, h, i⟩ := h
    exact ⟨u, by rw [upd_ne z]; exact h, i⟩
structure OC where
  R : HO → Hp → Prop
  g : ∀ o H H', Gr H H' → R o H → R o H'
  nt : ∀ o H, R o H → ¬ IsT o
  hd : ∀ o H, R o H → IsH o
inductive SK where
  | any
  | is (a : AV)
  | own (p : Addr) (c : OC)
def ownOf : SK → List Addr
  | .own p _ => [p]
  | _ => []
def owns (Γ : List SK) : List Addr := Γ.flatMap ownOf
def dels (O : List Addr) (H : Hp) : Hp := fun a => if a ∈ O then none else H a
section
variable {O O' : List Addr} {H H' : Hp} {p : Addr} {o : HO}
theorem dels_in (h : p ∈ O) : dels O H p = none := if_pos h
theorem dels_out (h : p ∉ O) : dels O H p = H p := if_neg h
theorem dels_some (h : dels O H p = some o) : p ∉ O ∧ H p = some o := by
  by_cases q : p ∈ O
  · rw [dels_in q] at h
    cases h
  · rw [dels_out q] at h
    exact ⟨q, h⟩
theorem gr_dels1 : Gr (dels O H) H := gr_of_ex fun a o h => (dels_some h).2
theorem gr_delsM (e : Gr H H') : Gr (dels O H) (dels O H') := fun a o h => by
  obtain ⟨n, h⟩ := dels_some h
  rw [dels_out n]
  exact e a o h
theorem gr_delsS (s : ∀ a ∈ O', a ∈ O) : Gr (dels O H) (dels O' H) := gr_of_ex fun a o h => by
  obtain ⟨n, h⟩ := dels_some h
  rw [dels_out fun z => n (s a z)]
  exact h
theorem dels_upd_in (h : p ∈ O) : dels O (upd H p o) = dels O H := by
  funext a
  by_cases q : a ∈ O
  · rw [dels_in q, dels_in q]
  · rw [dels_out q, dels_out q, upd_ne fun z => q (by rw [z]; exact h)]
theorem dels_upd_out (h : p ∉ O) : dels O (upd H p o) = upd (dels O H) p o := by
  funext a
  by_cases q : a ∈ O
  · rw [dels_in q, upd_ne (fun z => h (by rw [← z]; exact q)), dels_in q]
  · rw [dels_out q]
    by_cases z : a = p
    · subst z
      rw [upd_same, upd_same]
    · rw [upd_ne z, upd_ne z, dels_out q]
theorem dels_nil : dels [] H = H := by
  funext a
  exact dels_out (by simp)
end
abbrev AllV (As : List AV) (vs : List V) (H : Hp) : Prop := AllP H (As.map AV.P) vs
theorem gAll (As : List AV) : GrowsAll (As.map AV.P) := fun P h => by
  obtain ⟨a, _, rfl⟩ := List.mem_map.mp h
  exact a.g
theorem allV_get {H : Hp} : ∀ {As : List AV} {vs : List V} {i : Nat} {A : AV}, AllV As vs H → As[i]? = some A → ∃ v, vs[i]? = some v ∧ A.P v H
  | [], _, _, _, _, e => by simp at e
  | a :: As, _, 0, A, .cons h _, e => by
    simp at e
    subst e
    exact ⟨_, rfl, h⟩
  | a :: As, _, i + 1, A, .cons _ t, e => by
    obtain ⟨v, h1, h2⟩ := allV_get (i := i) (A := A) t (by simpa using e)
    exact ⟨v, by simpa using h1, h2⟩
theorem allV_len {As : List AV} {vs : List V} {H : Hp} (h : AllV As vs H) : vs.length = As.length := by
  have := h.len
  rwa [List.length_map] at this
theorem allV_app {H : Hp} : ∀ {As Bs : List AV} {vs us : List V}, AllV As vs H → AllV Bs us H → AllV (As ++ Bs) (vs ++ us) H
  | [], _, _, _, .nil, b => b
  | _ :: _, _, _, _, .cons h t, b => .cons h (allV_app t b)
theorem allV_grow {As : List AV} {vs : List V} {H H' : Hp} (e : Gr H H') (h : AllV As vs H) : AllV As vs H' := h.grow e (gAll As)

def SlotR (O : List Addr) (H : Hp) : SK → Option V → Prop
  | .any, _ => True
  | .is a, x => ∃ v, x = some v ∧ a.P v (dels O H)
  | .own p c, x => x = some (.ref p) ∧ ∃ o, H p = some o ∧ c.R o (dels O H)
theorem SlotR.grow {O : List Addr} {H H' : Hp} (e : Gr H H') : ∀ {k : SK} {x : Option V}, SlotR O H k x → SlotR O H' k x
  | .any, _, _ => trivial
  | .is a, _, ⟨v, h1, h2⟩ => ⟨v, h1, a.g _ _ _ (gr_delsM e) h2⟩
  | .own p c, _, ⟨h1, o, h2, h3⟩ => ⟨h1, o, e.at h2 (c.nt _ _ h3), c.g _ _ _ (gr_delsM e) h3⟩
theorem SlotR.fewer {O O' : List Addr} {H : Hp} (s : ∀ a ∈ O', a ∈ O) : ∀ {k : SK} {x : Option V}, SlotR O H k x → SlotR O' H k x
  | .any, _, _ => trivial
  | .is a, _, ⟨v, h1, h2⟩ => ⟨v, h1, a.g _ _ _ (gr_delsS s) h2⟩
  | .own p c, _, ⟨h1, o, h2, h3⟩ => ⟨h1, o, h2, c.g _ _ _ (gr_delsS s) h3⟩
/-- the slots hold what is told; O0: what others alone hold; H0: the heap at the entry -/
structure EnvR (O0 : List Addr) (H0 : Hp) (Γ : List SK) (σ : L2.St) (H : Hp) : Prop where
  gr : Gr H0 H
  out : ∀ p ∈ O0, Hid H p
  fr : ∀ p ∈ owns Γ, H0 p = none
  nd : (owns Γ).Nodup
  ap : ∀ p ∈ owns Γ, p ∉ O0
  len : σ.length = Γ.length
  sl : ∀ (i : Nat) (k : SK), Γ[i]? = some k → ∃ x, σ[i]? = some x ∧ SlotR (O0 ++ owns Γ) H k x
abbrev cut (O0 : List Addr) (Γ : List SK) (H : Hp) : Hp := dels (O0 ++ owns Γ) H
section
variable {O0 : List Addr} {H0 H H' : Hp} {Γ : List SK} {σ : L2.St} {i : Nat} {p : Addr} {c : OC} {A : AV}
theorem owns_at {k : SK} (h : Γ[i]? = some k) (hp : p ∈ ownOf k) : p ∈ owns Γ := List.mem_flatMap.mpr ⟨k, List.mem_of_getElem? h, hp⟩
theorem EnvR.own (e : EnvR O0 H0 Γ σ H) (h : Γ[i]? = some (.own p c)) : σ[i]? = some (some (.ref p)) ∧ ∃ o, H p = some o ∧ c.R o (cut O0 Γ H) := by
  obtain ⟨x, h1, h2, h3⟩ := e.sl i _ h
  exact ⟨by rw [h1, h2], h3⟩
theorem EnvR.is (e : EnvR O0 H0 Γ σ H) (h : Γ[i]? = some (.is A)) : ∃ v, σ[i]? = some (some v) ∧ A.P v (cut O0 Γ H) := by
  obtain ⟨x, h1, v, h2, h3⟩ := e.sl i _ h
  exact ⟨v, by rw [h1, h2], h3⟩
theorem EnvR.there (e : EnvR O0 H0 Γ σ H) (h : p ∈ O0 ++ owns Γ) : Hid H p := by
  rcases List.mem_append.mp h with h | h
  · exact e.out p h
  · obtain ⟨k, hk, hp⟩ := List.mem_flatMap.mp h
    obtain ⟨i, hi⟩ := List.mem_iff_getElem?.mp hk
    cases k with
    | own q c =>
      obtain rfl : p = q := by simpa [ownOf] using hp
      obtain ⟨_, o, h2, h3⟩ := e.own hi
      exact ⟨o, h2, c.hd _ _ h3⟩
    | any => simp [ownOf] at hp
    | is a => simp [ownOf] at hp
theorem EnvR.fresh (e : EnvR O0 H0 Γ σ H) (h : H p = none) : p ∉ O0 ++ owns Γ := fun z => (e.there z).ne h
theorem EnvR.grow (e : EnvR O0 H0 Γ σ H) (g : Gr H H') : EnvR O0 H0 Γ σ H' :=
  ⟨e.gr.trans g, fun p hp => (e.out p hp).grow g, e.fr, e.nd, e.ap, e.len, fun i k h => by
    obtain ⟨x, h1, h2⟩ := e.sl i k h
    exact ⟨x, h1, h2.grow g⟩⟩
theorem owns_set_sub {k : SK} (hk : ownOf k = []) : ∀ (Γ : List SK) (i : Nat), (owns (Γ.set i k)).Sublist (owns Γ)
  | [], _ => by simp [owns]
  | a :: Γ, 0 => by
    show (ownOf k ++ owns Γ).Sublist (ownOf a ++ owns Γ)
    rw [hk]
    exact List.sublist_append_right _ _
  | a :: Γ, i + 1 => by
    show (ownOf a ++ owns (Γ.set i k)).Sublist (ownOf a ++ owns Γ)
    exact (List.Sublist.refl _).append (owns_set_sub hk Γ i)
/-- fewer things told, fewer held alone -/
theorem EnvR.less {Γ' : List SK} {σ' : L2.St} (e : EnvR O0 H0 Γ σ H) (s : (owns Γ').Sublist (owns Γ)) (hl : σ'.length = Γ'.length)
    (h : ∀ (i : Nat) (k : SK), Γ'[i]? = some k → ∃ x, σ'[i]? = some x ∧ SlotR (O0 ++ owns Γ) H k x) : EnvR O0 H0 Γ' σ' H :=
  ⟨e.gr, e.out, fun p hp => e.fr p (s.subset hp), e.nd.sublist s, fun p hp => e.ap p (s.subset hp), hl, fun i k hk => by
    obtain ⟨x, h1, h2⟩ := h i k hk
    exact ⟨x, h1, h2.fewer fun a ha => by
      rcases List.mem_append.mp ha with z | z
      · exact List.mem_append_left _ z
      · exact List.mem_append_right _ (s.subset z)⟩⟩
theorem EnvR.set {v : V} (e : EnvR O0 H0 Γ σ H) (i : Nat) (h : A.P v (cut O0 Γ H)) : EnvR O0 H0 (Γ.set i (.is A)) (σ.set i (some v)) H :=
  e.less (owns_set_sub rfl Γ i) (by simp [e.len]) fun j k hk => by
    by_cases q : i = j
    · subst q
      have hi : i < Γ.length := by
        by_cases z : i < Γ.length
        · exact z
        · rw [List.getElem?_eq_none (by simp; omega)] at hk
          cases hk
      rw [List.getElem?_set_self hi] at hk
      cases hk
      exact ⟨some v, by rw [List.getElem?_set_self (by rw [e.len]; exact hi)], v, rfl, h⟩
    · rw [List.getElem?_set_ne q] at hk
      rw [List.getElem?_set_ne q]
      exact e.sl j k hk
/-- a slot forgotten, or told less -/
theorem EnvR.tell {k : SK} (e : EnvR O0 H0 Γ σ H) (i : Nat) (hk : ownOf k = []) (h : ∀ x, σ[i]? = some x → SlotR (O0 ++ owns Γ) H k x) : EnvR O0 H0 (Γ.set i k) σ H :=
  e.less (owns_set_sub hk Γ i) (by simp [e.len]) fun j k' hk' => by
    by_cases q : i = j
    · subst q
      have hi : i < Γ.length := by
        by_cases z : i < Γ.length
        · exact z
        · rw [List.getElem?_eq_none (by simp; omega)] at hk'
          cases hk'
      rw [List.getElem?_set_self hi] at hk'
      cases hk'
      have hs : i < σ.length := by rw [e.len]; exact hi
      exact ⟨σ[i], List.getElem?_eq_getElem hs, h _ (List.getElem?_eq_getElem hs)⟩
    · rw [List.getElem?_set_ne q] at hk'
      exact e.sl j k' hk'
theorem mem_owns_set {k : SK} : ∀ (Γ : List SK) (i : Nat) (p : Addr), p ∈ owns (Γ.set i k) → p ∈ ownOf k ∨ p ∈ owns Γ
  | [], _, _, h => by simp [owns] at h
  | a :: Γ, 0, p, h => by
    have h : p ∈ ownOf k ++ owns Γ := h
    rcases List.mem_append.mp h with h | h
    · exact .inl h
    · exact .inr (List.mem_append_right _ h)
  | a :: Γ, i + 1, p, h => by
    have h : p ∈ ownOf a ++ owns (Γ.set i k) := h
    rcases List.mem_append.mp h with h | h
    · exact .inr (List.mem_append_left _ h)
    · rcases mem_owns_set Γ i p h with h | h
      · exact .inl h
      · exact .inr (List.mem_append_right _ h)
theorem nodup_owns_set {c : OC} : ∀ (Γ : List SK) (i : Nat) (p : Addr), p ∉ owns Γ → (owns Γ).Nodup → (owns (Γ.set i (.own p c))).Nodup
  | [], _, _, _, h => by simpa [owns] using h
  | a :: Γ, 0, p, n, h => by
    have h : (ownOf a ++ owns Γ).Nodup := h
    have n : p ∉ ownOf a ++ owns Γ := n
    show ([p] ++ owns Γ).Nodup
    refine List.nodup_cons.mpr ⟨fun z => n (List.mem_append_right _ z), h.sublist (List.sublist_append_right _ _)⟩
  | a :: Γ, i + 1, p, n, h => by
    have h : (ownOf a ++ owns Γ).Nodup := h
    have n : p ∉ ownOf a ++ owns Γ := n
    show (ownOf a ++ owns (Γ.set i (.own p c))).Nodup
    rw [List.nodup_append] at h ⊢
    refine ⟨h.1, nodup_owns_set Γ i p (fun z => n (List.mem_append_right _ z)) h.2.1, fun x hx y hy => ?_⟩
    rcases mem_owns_set Γ i y hy with z | z
    · obtain rfl : y = p := by simpa [ownOf] using z
      exact fun e => n (List.mem_append_left _ (e ▸ hx))
    · exact h.2.2 x hx y z
/-- a new object that slot i alone holds -/
theorem EnvR.setNew {o : HO} (e : EnvR O0 H0 Γ σ H) (i : Nat) (hp : H p = none) (h : c.R o (cut O0 Γ H)) : EnvR O0 H0 (Γ.set i (.own p c)) (σ.set i (some (.ref p))) (upd H p o) := by
  have np := e.fresh hp
  have gn : Gr H (upd H p o) := Gr.new hp
  have sub : ∀ a ∈ O0 ++ owns (Γ.set i (.own p c)), a ∈ p :: (O0 ++ owns Γ) := fun a ha => by
    rcases List.mem_append.mp ha with z | z
    · exact List.mem_cons_of_mem _ (List.mem_append_left _ z)
    · rcases mem_owns_set Γ i a z with z | z
      · obtain rfl : a = p := by simpa [ownOf] using z
        exact List.mem_cons_self
      · exact List.mem_cons_of_mem _ (List.mem_append_right _ z)
  have gcut : Gr (cut O0 Γ H) (cut O0 (Γ.set i (.own p c)) (upd H p o)) := gr_of_ex fun a u q => by
    obtain ⟨n, q⟩ := dels_some q
    have nap : a ≠ p := ne_of_none q hp
    unfold cut
    rw [dels_out fun z => by
      rcases List.mem_cons.mp (sub a z) with z | z
      · exact nap z
      · exact n z, upd_ne nap]
    exact q
  refine ⟨e.gr.trans gn, fun q hq => (e.out q hq).grow gn, fun q hq => ?_, nodup_owns_set Γ i p (fun z => np (List.mem_append_right _ z)) e.nd, fun q hq z => ?_, by simp [e.len], fun j k hk => ?_⟩
  · rcases mem_owns_set Γ i q hq with z | z
    · obtain rfl : q = p := by simpa [ownOf] using z
      exact e.gr.back hp
    · exact e.fr q z
  · rcases mem_owns_set Γ i q hq with y | y
    · obtain rfl : q = p := by simpa [ownOf] using y
      exact np (List.mem_append_left _ z)
    · exact e.ap q y z
  · by_cases q : i = j
    · subst q
      have hi : i < Γ.length := by
        by_cases z : i < Γ.length
        · exact z
        · rw [List.getElem?_eq_none (by simp; omega)] at hk
          cases hk
      rw [List.getElem?_set_self hi] at hk
      cases hk
      exact ⟨some (.ref p), by rw [List.getElem?_set_self (by rw [e.len]; exact hi)], rfl, o, upd_same, c.g _ _ _ gcut h⟩
    · rw [List.getElem?_set_ne q] at hk
      rw [List.getElem?_set_ne q]
      obtain ⟨x, h1, h2⟩ := e.sl j k hk
      refine ⟨x, h1, ?_⟩
      cases k with
      | any => trivial
      | is a =>
        obtain ⟨v, e1, e2⟩ := h2
        exact ⟨v, e1, a.g _ _ _ gcut e2⟩
      | own r c' =>
        obtain ⟨e1, o', e2, e3⟩ := h2
        exact ⟨e1, o', by rw [upd_ne (ne_of_none e2 hp)]; exact e2, c'.g _ _ _ gcut e3⟩
theorem owns_set_same {c c' : OC} : ∀ (Γ : List SK) (i : Nat) (p : Addr), Γ[i]? = some (.own p c) → owns (Γ.set i (.own p c')) = owns Γ
  | [], _, _, h => by simp at h
  | a :: Γ, 0, p, h => by
    simp at h
    subst h
    rfl
  | a :: Γ, i + 1, p, h => by
    show ownOf a ++ owns (Γ.set i (.own p c')) = ownOf a ++ owns Γ
    rw [owns_set_same Γ i p (by simpa using h)]
theorem owns_inj {c c' : OC} : ∀ (Γ : List SK) (i j : Nat) (p : Addr), (owns Γ).Nodup → Γ[i]? = some (.own p c) → Γ[j]? = some (.own p c') → i = j
  | [], _, _, _, _, h, _ => by simp at h
  | a :: Γ, 0, 0, _, _, _, _ => rfl
  | a :: Γ, 0, j + 1, p, n, h, h' => by
    simp at h h'
    subst h
    have n : ([p] ++ owns Γ).Nodup := n
    exact absurd (owns_at h' (by simp [ownOf])) (List.nodup_cons.mp n).1
  | a :: Γ, i + 1, 0, p, n, h, h' => by
    simp at h h'
    subst h'
    have n : ([p] ++ owns Γ).Nodup := n
    exact absurd (owns_at h (by simp [ownOf])) (List.nodup_cons.mp n).1
  | a :: Γ, i + 1, j + 1, p, n, h, h' => by
    have n : (ownOf a ++ owns Γ).Nodup := n
    rw [owns_inj Γ i j p (n.sublist (List.sublist_append_right _ _)) (by simpa using h) (by simpa using h')]
/-- what slot i alone holds is changed -/
theorem EnvR.write {c' : OC} {o : HO} (e : EnvR O0 H0 Γ σ H) (hi : Γ[i]? = some (.own p c)) (h : c'.R o (cut O0 Γ H)) : EnvR O0 H0 (Γ.set i (.own p c')) σ (upd H p o) := by
  have es := owns_set_same (c' := c') Γ i p hi
  have pin : p ∈ O0 ++ owns Γ := List.mem_append_right _ (owns_at hi (by simp [ownOf]))
  have ec : cut O0 Γ (upd H p o) = cut O0 Γ H := dels_upd_in pin
  refine ⟨e.gr.write (e.fr p (owns_at hi (by simp [ownOf]))), fun q hq => (e.out q hq).upd (c'.hd _ _ h), by rw [es]; exact e.fr, by rw [es]; exact e.nd, by rw [es]; exact e.ap, by simp [e.len], fun j k hk => ?_⟩
  · rw [es]
    by_cases q : i = j
    · subst q
      have hl : i < Γ.length := (List.getElem?_eq_some_iff.mp hi).1
      rw [List.getElem?_set_self hl] at hk
      cases hk
      refine ⟨some (.ref p), (e.own hi).1, rfl, o, upd_same, ?_⟩
      show c'.R o (cut O0 Γ (upd H p o))
      rw [ec]
      exact h
    · rw [List.getElem?_set_ne q] at hk
      obtain ⟨x, h1, h2⟩ := e.sl j k hk
      refine ⟨x, h1, ?_⟩
      cases k with
      | any => trivial
      | is a =>
        obtain ⟨v, e1, e2⟩ := h2
        refine ⟨v, e1, ?_⟩
        show a.P v (cut O0 Γ (upd H p o))
        rw [ec]
        exact e2
      | own r c'' =>
        obtain ⟨e1, o', e2, e3⟩ := h2
        have ne : r ≠ p := fun z => q (owns_inj Γ i j p e.nd hi (by rw [← z]; exact hk))
        refine ⟨e1, o', by rw [upd_ne ne]; exact e2, ?_⟩
        show c''.R o' (cut O0 Γ (upd H p o))
        rw [ec]
        exact e3
/-- the entry moved up to here -/
theorem EnvR.here (e : EnvR O0 H0 Γ σ H) : EnvR O0 (dels (owns Γ) H) Γ σ H := ⟨gr_dels1, e.out, fun p hp => dels_in hp, e.nd, e.ap, e.len, e.sl⟩
theorem EnvR.up (e : EnvR O0 H0 Γ σ H) : Gr H0 (dels (owns Γ) H) := fun a o h => by
  rw [dels_out fun z => ne_of_none h (e.fr a z) rfl]
  exact e.gr a o h
theorem EnvR.rebase {H1 : Hp} {Γ' : List SK} {σ' : L2.St} (g : Gr H0 H1) (e : EnvR O0 H1 Γ' σ' H') : EnvR O0 H0 Γ' σ' H' :=
  ⟨g.trans e.gr, e.out, fun p hp => g.back (e.fr p hp), e.nd, e.ap, e.len, e.sl⟩
/-- what was seen from the entry, cut, is seen here, cut -/
theorem EnvR.seen {Γ' : List SK} {σ' : L2.St} (e : EnvR O0 H0 Γ' σ' H') (h : ∀ p ∈ owns Γ, H0 p = none) : Gr (cut O0 Γ H0) (cut O0 Γ' H') := fun a o q => by
  obtain ⟨n, q⟩ := dels_some q
  have na : a ∉ O0 ++ owns Γ' := fun z => by
    rcases List.mem_append.mp z with z | z
    · exact n (List.mem_append_left _ z)
    · exact ne_of_none q (e.fr a z) rfl
  unfold cut
  rw [dels_out na]
  exact e.gr a o q
theorem cut_here : cut O0 Γ (dels (owns Γ) H) = cut O0 Γ H := by
  funext a
  unfold cut
  by_cases q : a ∈ O0 ++ owns Γ
  · rw [dels_in q, dels_in q]
  · rw [dels_out q, dels_out q, dels_out fun z => q (List.mem_append_right _ z)]
end

/-! ### what is told of readings -/
def WR (Γ : List SK) (te : TE) (Φ : AV → Prop) : Prop := ∀ O0 H0 σ H, EnvR O0 H0 Γ σ H → ∀ Q : VK, (∀ A, Φ A → ∀ v H', Gr H H' → A.P v (cut O0 Γ H') → Q v H') → te σ H Q
def WA (Γ : List SK) (ta : TA) (Φ : List AV → Prop) : Prop := ∀ O0 H0 σ H, EnvR O0 H0 Γ σ H → ∀ Q : List V → Hp → Prop, (∀ As, Φ As → ∀ vs H', Gr H H' → AllV As vs (cut O0 Γ H') → Q vs H') → ta σ H Q
def WT (Γ : List SK) (tt : TT) (Ψ : Bool → Prop) : Prop := ∀ O0 H0 σ H, EnvR O0 H0 Γ σ H → ∀ Q : Bool → Hp → Prop, (∀ b, Ψ b → ∀ H', Gr H H' → Q b H') → tt σ H Q
/-- a new object -/
def FR (Γ : List SK) (te : TE) (Ψ : OC → Prop) : Prop := ∀ O0 H0 σ H, EnvR O0 H0 Γ σ H → ∀ Q : VK, (∀ c, Ψ c → ∀ p o H', Gr H H' → H' p = none → c.R o (cut O0 Γ H') → Q (.ref p) (upd H' p o)) → te σ H Q
/-- where a block may end -/
structure EA where
  nx : List SK → Prop
  rt : AV → Prop
  bk : List SK → Prop := fun _ => False
  ct : List SK → Prop := fun _ => False
  xe : XK := E0
  xc : Addr → Str → AV → Prop := fun _ _ _ => False
  rf : OC → Prop := fun _ => False
structure Fits (O0 : List Addr) (H0 : Hp) (E : EA) (D : Ends) : Prop where
  nx : ∀ Γ' σ' H', E.nx Γ' → EnvR O0 H0 Γ' σ' H' → D.nx σ' H'
  rt : ∀ A v H', E.rt A → Gr H0 H' → (∀ p ∈ O0, Hid H' p) → A.P v (dels O0 H') → D.rt v H'
  bk : ∀ Γ' σ' H', E.bk Γ' → EnvR O0 H0 Γ' σ' H' → D.bk σ' H'
  ct : ∀ Γ' σ' H', E.ct Γ' → EnvR O0 H0 Γ' σ' H' → D.ct σ' H'
  xc : ∀ C f A v d H', E.xc C f A → Gr H0 H' → A.P v (dels O0 H') → H' d = none → E.xe (.ref C) (some d) (upd H' d (.xd [(f, v)]))
  rf : ∀ c p o H', E.rf c → Gr H0 H' → (∀ q ∈ O0, Hid H' q) → p ∉ O0 → H0 p = none → H' p = some o → c.R o (dels (p :: O0) H') → D.rt (.ref p) H'
def WS (Γ : List SK) (ts : TS) (E : EA) : Prop := ∀ O0 H0 σ H, EnvR O0 H0 Γ σ H → ∀ D, Fits O0 H0 E D → ts D σ H

section
variable {Γ : List SK} {te ta tb : TE} {Φ Φ' : AV → Prop} {tr : TA} {t u : TT} {Ψ : Bool → Prop}
theorem wr_mono (h : WR Γ te Φ) (k : ∀ A, Φ A → Φ' A) : WR Γ te Φ' := fun O0 H0 σ H e Q q => h O0 H0 σ H e Q fun A a v H' g p => q A (k A a) v H' g p
/-- one reading behind another -/
theorem wr_then {Φb : AV → Prop} {O0 : List Addr} {H0 : Hp} {σ : L2.St} {H : Hp} {R : V → Hp → Prop} (e : EnvR O0 H0 Γ σ H) (h : WR Γ te Φ) (k : ∀ A, Φ A → ∀ v H', Gr H H' → A.P v (cut O0 Γ H') → EnvR O0 H0 Γ σ H' → R v H') : te σ H R :=
  h O0 H0 σ H e R fun A a v H' g p => k A a v H' g p (e.grow g)
end
end G.J

set_option maxHeartbeats 400000
/-! Rules: expressions, tests, statements, walks, calls. -/
namespace G.J
open PySem PySem.Spec PyProof.Rows L2 Tp G
section
variable {K : PySem.W.Frag}
def Le (A B : AV) : Prop := ∀ v H, A.P v H → B.P v H
theorem le_rfl {A : AV} : Le A A := fun _ _ h => h
theorem Le.trans {A B C : AV} (h : Le A B) (k : Le B C) : Le A C := fun v H p => k v H (h v H p)
def aD (K : PySem.W.Frag) (d : PyData) : AV := ⟨fun v H => Dp K H v d, fun v _ _ e h => dp_gr e d v h⟩
def aS (K : PySem.W.Frag) (d : PyData) : AV := ⟨fun v H => Stay K H v d, fun _ _ _ e h => h.grow e⟩
def aV (v : V) : AV := ⟨fun u _ => u = v, grows_eq⟩
abbrev aI (K : PySem.W.Frag) (i : Int) : AV := aD K (.int i)
abbrev aB (K : PySem.W.Frag) (b : Bool) : AV := aD K (.bool b)
abbrev aN (K : PySem.W.Frag) : AV := aD K .none
/-- a tuple; a list that is read; a list of ours -/
def aT (K : PySem.W.Frag) (As : List AV) : AV := ⟨fun v H => ∃ p xs, v = .ref p ∧ SqT K H p xs ∧ AllV As xs H, fun _ _ _ e ⟨p, xs, h1, h2, h3⟩ => ⟨p, xs, h1, e.sqt h2, allV_grow e h3⟩⟩
def aQ (K : PySem.W.Frag) (As : List AV) : AV := ⟨fun v H => ∃ p xs, v = .ref p ∧ SqL K H p xs ∧ AllV As xs H, fun _ _ _ e ⟨p, xs, h1, h2, h3⟩ => ⟨p, xs, h1, e.sql h2, allV_grow e h3⟩⟩
def aL (As : List AV) : AV := ⟨fun v H => ∃ p xs, v = .ref p ∧ H p = some (.lst xs) ∧ AllV As xs H, fun _ _ _ e ⟨p, xs, h1, h2, h3⟩ => ⟨p, xs, h1, e.lst h2, allV_grow e h3⟩⟩
def oL (As : List AV) : OC := ⟨fun o H => ∃ xs, o = .lst xs ∧ AllV As xs H, fun _ _ _ e ⟨xs, h1, h2⟩ => ⟨xs, h1, allV_grow e h2⟩, fun _ _ ⟨xs, h1, _⟩ ⟨_, _, z, _⟩ => (by rw [h1] at z; cases z), fun _ _ ⟨xs, h1, _⟩ => .inl ⟨xs, h1⟩⟩
def aTape : AV := ⟨fun v H => ∃ t, v = .ref t ∧ Tape H t, fun _ _ _ e ⟨t, h1, h2⟩ => ⟨t, h1, e.tape_at h2⟩⟩
theorem le_LQ {As : List AV} : Le (aL As) (aQ K As) := fun v H ⟨p, xs, h1, h2, h3⟩ => ⟨p, xs, h1, SqL.of h2, h3⟩
theorem le_DS {d : PyData} : Le (aD K d) (aS K d) := fun _ _ h => stay_dp h
theorem allV_D {H : Hp} : ∀ {ds : List PyData} {vs : List V}, AllV (ds.map (aD K)) vs H ↔ DpAll K H vs ds
  | [], vs => ⟨fun h => by cases h; exact .nil, fun h => by cases h; exact .nil⟩
  | d :: ds, vs => ⟨fun h => by
      cases h with
      | cons h1 h2 => exact .cons h1 (allV_D.mp h2), fun h => by
      cases h with
      | cons h1 h2 => exact .cons h1 (allV_D.mpr h2)⟩
theorem le_DT {ds : List PyData} : Le (aD K (.tuple ds)) (aT K (ds.map (aD K))) := fun v H h => by
  cases h with
  | tup h1 h2 => exact ⟨_, _, rfl, h1, allV_D.mpr h2⟩
theorem le_TD {ds : List PyData} : Le (aT K (ds.map (aD K))) (aD K (.tuple ds)) := fun v H ⟨p, xs, h1, h2, h3⟩ => h1 ▸ .tup h2 (allV_D.mp h3)
theorem le_DQ {ds : List PyData} : Le (aD K (.list ds)) (aQ K (ds.map (aD K))) := fun v H h => by
  cases h with
  | lst h1 h2 => exact ⟨_, _, rfl, h1, allV_D.mpr h2⟩
theorem le_QD {ds : List PyData} : Le (aQ K (ds.map (aD K))) (aD K (.list ds)) := fun v H ⟨p, xs, h1, h2, h3⟩ => h1 ▸ .lst h2 (allV_D.mp h3)
theorem le_LD {ds : List PyData} : Le (aL (ds.map (aD K))) (aD K (.list ds)) := le_LQ.trans le_QD
/-- item by item -/
inductive LeAll : List AV → List AV → Prop
  | nil : LeAll [] []
  | cons {A B : AV} {As Bs : List AV} : Le A B → LeAll As Bs → LeAll (A :: As) (B :: Bs)
theorem LeAll.rfl : ∀ {As : List AV}, LeAll As As
  | [] => .nil
  | _ :: _ => .cons le_rfl LeAll.rfl
theorem LeAll.allV {H : Hp} : ∀ {As Bs : List AV} {vs : List V}, LeAll As Bs → AllV As vs H → AllV Bs vs H
  | _, _, _, .nil, .nil => .nil
  | _, _, _, .cons h t, .cons p q => .cons (h _ _ p) (t.allV q)
theorem le_T {As Bs : List AV} (h : LeAll As Bs) : Le (aT K As) (aT K Bs) := fun v H ⟨p, xs, h1, h2, h3⟩ => ⟨p, xs, h1, h2, h.allV h3⟩
theorem le_Q {As Bs : List AV} (h : LeAll As Bs) : Le (aQ K As) (aQ K Bs) := fun v H ⟨p, xs, h1, h2, h3⟩ => ⟨p, xs, h1, h2, h.allV h3⟩
theorem le_L {As Bs : List AV} (h : LeAll As Bs) : Le (aL As) (aL Bs) := fun v H ⟨p, xs, h1, h2, h3⟩ => ⟨p, xs, h1, h2, h.allV h3⟩
theorem dp_int {H : Hp} {v : V} {i : Int} (h : Dp K H v (.int i)) : v = .int i := by cases h; rfl
theorem dp_bl {H : Hp} {v : V} {b : Bool} (h : Dp K H v (.bool b)) : v = .bl b := by cases h; rfl
theorem dp_str {H : Hp} {v : V} {x : Str} (h : Dp K H v (.str x)) : v = .str x := by cases h; rfl
theorem dp_non {H : Hp} {v : V} (h : Dp K H v .none) : v = .non := by cases h; rfl
end

section
variable {K : PySem.W.Frag} {Γ : List SK} {te ta tb tc : TE} {Φ : AV → Prop} {Ψ : OC → Prop} {Φs : List AV → Prop} {tr : TA} {t u : TT} {B : Bool → Prop}
/-! ### names, constants, arguments -/
theorem wr_var {i : Nat} {A : AV} (h : Γ[i]? = some (.is A)) (k : Φ A) : WR Γ (tVar i) Φ := fun O0 H0 σ H e Q q => by
  obtain ⟨v, h1, h2⟩ := e.is h
  exact ⟨v, h1, q A k v H (Gr.refl H) h2⟩
theorem wr_c {v : V} {A : AV} (h : ∀ H, A.P v H) (k : Φ A) : WR Γ (tC v) Φ := fun O0 H0 σ H e Q q => q A k v H (Gr.refl H) (h _)
theorem wr_int {i : Int} (k : Φ (aI K i)) : WR Γ (tC (.int i)) Φ := wr_c (fun _ => Dp.int i) k
theorem wr_bl {b : Bool} (k : Φ (aB K b)) : WR Γ (tC (.bl b)) Φ := wr_c (fun _ => Dp.bl b) k
theorem wr_non (k : Φ (aN K)) : WR Γ (tC .non) Φ := wr_c (fun _ => Dp.non) k
theorem wr_str {x : Str} (k : Φ (aD K (.str x))) : WR Γ (tC (.str x)) Φ := wr_c (fun _ => Dp.str x) k
theorem wa_nil (k : Φs []) : WA Γ tNil Φs := fun O0 H0 σ H e Q q => q [] k [] H (Gr.refl H) .nil
theorem wa_cons (h : WR Γ te fun A => WA Γ tr fun As => Φs (A :: As)) : WA Γ (tCons te tr) Φs := fun O0 H0 σ H e Q q =>
  h O0 H0 σ H e _ fun A a v H1 g p => a O0 H0 σ H1 (e.grow g) _ fun As as vs H2 g2 ps => q _ as (v :: vs) H2 (g.trans g2) (.cons (A.g _ _ _ (gr_delsM g2) p) ps)
theorem wa_mono {Φs' : List AV → Prop} (h : WA Γ tr Φs) (k : ∀ As, Φs As → Φs' As) : WA Γ tr Φs' := fun O0 H0 σ H e Q q => h O0 H0 σ H e Q fun As a => q As (k As a)
theorem wt_mono {B' : Bool → Prop} (h : WT Γ t B) (k : ∀ b, B b → B' b) : WT Γ t B' := fun O0 H0 σ H e Q q => h O0 H0 σ H e Q fun b x => q b (k b x)
/-! ### displays -/
theorem new_cut {O0 : List Addr} {H0 H : Hp} {σ : L2.St} {p : Addr} {o : HO} (e : EnvR O0 H0 Γ σ H) (hp : H p = none) : cut O0 Γ (upd H p o) p = some o ∧ Gr (cut O0 Γ H) (cut O0 Γ (upd H p o)) := by
  have n := e.fresh hp
  refine ⟨by unfold cut; rw [dels_out n, upd_same], gr_delsM (Gr.new hp)⟩
theorem wr_tup (h : WA Γ tr fun As => As.length ≤ 1000 ∧ Φ (aT K As)) : WR Γ (tTup tr) Φ := fun O0 H0 σ H e Q q =>
  h O0 H0 σ H e _ fun As ⟨hl, a⟩ vs H1 g ps => ⟨by rw [allV_len ps]; exact Nat.le_trans hl (by decide), fun p hp => by
    obtain ⟨n1, n2⟩ := new_cut (o := .tup vs) (e.grow g) hp
    exact q _ a _ _ (g.trans (Gr.new hp)) ⟨p, vs, rfl, Evl.st_of n1, allV_grow n2 ps⟩⟩
theorem fr_lst (h : WA Γ tr fun As => As.length ≤ 1000 ∧ Ψ (oL As)) : FR Γ (tLst tr) Ψ := fun O0 H0 σ H e Q q =>
  h O0 H0 σ H e _ fun As ⟨hl, a⟩ vs H1 g ps => ⟨by rw [allV_len ps]; exact Nat.le_trans hl (by decide), fun p hp => q _ a p _ H1 g hp ⟨vs, rfl, ps⟩⟩
theorem wr_new {c : OC} {A : AV} {O0 : List Addr} {H0 H : Hp} {σ : L2.St} {p : Addr} {o : HO} (hA : ∀ p o H, H p = some o → c.R o H → A.P (.ref p) H) (e : EnvR O0 H0 Γ σ H) (hp : H p = none) (h : c.R o (cut O0 Γ H)) : A.P (.ref p) (cut O0 Γ (upd H p o)) := by
  obtain ⟨n1, n2⟩ := new_cut (o := o) e hp
  exact hA p o _ n1 (c.g _ _ _ n2 h)
theorem fr_wr (h : FR Γ te fun c => ∃ A, (∀ p o H, H p = some o → c.R o H → A.P (.ref p) H) ∧ Φ A) : WR Γ te Φ := fun O0 H0 σ H e Q q =>
  h O0 H0 σ H e Q fun c ⟨A, hA, a⟩ p o H1 g hp r => q A a _ _ (g.trans (Gr.new hp)) (wr_new hA (e.grow g) hp r)
theorem new_L {As : List AV} : ∀ p o H, H p = some o → (oL As).R o H → (aL As).P (.ref p) H := fun p o H h ⟨xs, h1, h2⟩ => ⟨p, xs, rfl, by rw [h, h1], h2⟩
theorem fr_L (h : FR Γ te fun c => ∃ As, c = oL As ∧ Φ (aL As)) : WR Γ te Φ := fr_wr fun O0 H0 σ H e Q q => h O0 H0 σ H e Q fun c ⟨As, hc, a⟩ => q c ⟨aL As, by subst hc; exact new_L, a⟩
theorem wr_lst (h : WA Γ tr fun As => As.length ≤ 1000 ∧ Φ (aL As)) : WR Γ (tLst tr) Φ := fr_L (fr_lst (wa_mono h fun As ⟨a, b⟩ => ⟨a, As, rfl, b⟩))
/-- list + list -/
theorem fr_cat (h : WR Γ ta fun A => ∃ As, Le A (aL As) ∧ WR Γ tb fun B => ∃ Bs, Le B (aL Bs) ∧ As.length + Bs.length ≤ 100000 ∧ Ψ (oL (As ++ Bs))) : FR Γ (tOp rCat ta tb) Ψ := fun O0 H0 σ H e Q q =>
  h O0 H0 σ H e _ fun A ⟨As, la, hb⟩ v H1 g p => hb O0 H0 σ H1 (e.grow g) _ fun B ⟨Bs, lb, hl, k⟩ w H2 g2 p2 => by
    obtain ⟨a, xs, rfl, ha, hx⟩ := la _ _ p
    obtain ⟨b, ys, rfl, hb, hy⟩ := lb _ _ p2
    have ha := g2.lst (dels_some ha).2
    have hb := (dels_some hb).2
    exact ⟨a, b, xs, ys, rfl, rfl, ha, hb, by rw [allV_len hx, allV_len hy]; exact Nat.le_trans hl (by decide), fun z hz => q _ k z _ H2 (g.trans g2) hz ⟨_, rfl, allV_app (allV_grow (gr_delsM g2) hx) hy⟩⟩
/-! ### ints -/
theorem wr_i0 {f : Int → Int → V} {g : Int → Int → PyData} (hf : ∀ i j H, Dp K H (f i j) (g i j)) (h : WR Γ ta fun A => ∃ i, Le A (aI K i) ∧ WR Γ tb fun B => ∃ j, Le B (aI K j) ∧ Φ (aD K (g i j))) : WR Γ (tOp (rI0 f) ta tb) Φ := fun O0 H0 σ H e Q q =>
  h O0 H0 σ H e _ fun A ⟨i, la, hb⟩ v H1 g1 p => hb O0 H0 σ H1 (e.grow g1) _ fun B ⟨j, lb, k⟩ w H2 g2 p2 => ⟨i, j, dp_int (la _ _ p), dp_int (lb _ _ p2), q _ k _ H2 (g1.trans g2) (hf i j _)⟩
theorem wr_iC {C : Int → Int → Prop} {f : Int → Int → V} {g : Int → Int → PyData} (hf : ∀ i j H, Dp K H (f i j) (g i j)) (h : WR Γ ta fun A => ∃ i, Le A (aI K i) ∧ WR Γ tb fun B => ∃ j, Le B (aI K j) ∧ C i j ∧ Φ (aD K (g i j))) : WR Γ (tOp (rI C f) ta tb) Φ := fun O0 H0 σ H e Q q =>
  h O0 H0 σ H e _ fun A ⟨i, la, hb⟩ v H1 g1 p => hb O0 H0 σ H1 (e.grow g1) _ fun B ⟨j, lb, hc, k⟩ w H2 g2 p2 => ⟨i, j, dp_int (la _ _ p), dp_int (lb _ _ p2), hc, q _ k _ H2 (g1.trans g2) (hf i j _)⟩
abbrev IntR (K : PySem.W.Frag) (Γ : List SK) (ta tb : TE) (Φ : Int → Int → Prop) : Prop := WR Γ ta fun A => ∃ i, Le A (aI K i) ∧ WR Γ tb fun B => ∃ j, Le B (aI K j) ∧ Φ i j
theorem wr_add (h : IntR K Γ ta tb fun i j => Φ (aI K (i + j))) : WR Γ (tOp (rI0 fun i j => .int (i + j)) ta tb) Φ := wr_i0 (g := fun i j => .int (i + j)) (fun _ _ _ => .int _) h
theorem wr_sub (h : IntR K Γ ta tb fun i j => Φ (aI K (i - j))) : WR Γ (tOp (rI0 fun i j => .int (i - j)) ta tb) Φ := wr_i0 (g := fun i j => .int (i - j)) (fun _ _ _ => .int _) h
theorem wr_mul (h : IntR K Γ ta tb fun i j => CMul i j ∧ Φ (aI K (i * j))) : WR Γ (tOp (rI CMul fun i j => .int (i * j)) ta tb) Φ := wr_iC (g := fun i j => .int (i * j)) (fun _ _ _ => .int _) h
theorem wr_lt (h : IntR K Γ ta tb fun i j => Φ (aB K (decide (i < j)))) : WR Γ (tOp rLt ta tb) Φ := wr_i0 (g := fun i j => .bool (decide (i < j))) (fun _ _ _ => .bl _) h
theorem wr_ge (h : IntR K Γ ta tb fun i j => Φ (aB K (decide (j ≤ i)))) : WR Γ (tOp rGe ta tb) Φ := wr_i0 (g := fun i j => .bool (decide (j ≤ i))) (fun _ _ _ => .bl _) h
theorem wr_gt (h : IntR K Γ ta tb fun i j => Φ (aB K (decide (j < i)))) : WR Γ (tOp rGt ta tb) Φ := wr_i0 (g := fun i j => .bool (decide (j < i))) (fun _ _ _ => .bl _) h
theorem wr_le (h : IntR K Γ ta tb fun i j => Φ (aB K (decide (i ≤ j)))) : WR Γ (tOp rLe ta tb) Φ := wr_i0 (g := fun i j => .bool (decide (i ≤ j))) (fun _ _ _ => .bl _) h
theorem wr_eqI (h : IntR K Γ ta tb fun i j => Φ (aB K (decide (i = j)))) : WR Γ (tOp rEq ta tb) Φ := fun O0 H0 σ H e Q q =>
  h O0 H0 σ H e _ fun A ⟨i, la, hb⟩ v H1 g1 p => hb O0 H0 σ H1 (e.grow g1) _ fun B ⟨j, lb, k⟩ w H2 g2 p2 => by
    rw [dp_int (la _ _ p), dp_int (lb _ _ p2)]
    refine ⟨rfl, q _ k _ H2 (g1.trans g2) ?_⟩
    have e : decide (V.int i = V.int j) = decide (i = j) := by
      rw [decide_eq_decide]
      exact ⟨fun h => V.int.inj h, fun h => by rw [h]⟩
    rw [e]
    exact .bl _
theorem wr_neI (h : IntR K Γ ta tb fun i j => Φ (aB K (!decide (i = j)))) : WR Γ (tOp rNe ta tb) Φ := fun O0 H0 σ H e Q q =>
  h O0 H0 σ H e _ fun A ⟨i, la, hb⟩ v H1 g1 p => hb O0 H0 σ H1 (e.grow g1) _ fun B ⟨j, lb, k⟩ w H2 g2 p2 => by
    rw [dp_int (la _ _ p), dp_int (lb _ _ p2)]
    refine ⟨rfl, q _ k _ H2 (g1.trans g2) ?_⟩
    have e : decide (V.int i = V.int j) = decide (i = j) := by
      rw [decide_eq_decide]
      exact ⟨fun h => V.int.inj h, fun h => by rw [h]⟩
    rw [e]
    exact .bl _
/-! ### == of data -/
abbrev DatR (K : PySem.W.Frag) (Γ : List SK) (ta tb : TE) (Φ : PyData → PyData → Prop) : Prop := WR Γ ta fun A => ∃ d, Le A (aD K d) ∧ WR Γ tb fun B => ∃ d', Le B (aD K d') ∧ Φ d d'
theorem wr_eqD (h : DatR K Γ ta tb fun d d' => SeqAt.shaped d = true ∧ SeqAt.shaped d' = true ∧ Φ (aB K (PyData.eqv d d'))) : WR Γ (tOp (rEqD K) ta tb) Φ := fun O0 H0 σ H e Q q =>
  h O0 H0 σ H e _ fun A ⟨d, la, hb⟩ v H1 g1 p => hb O0 H0 σ H1 (e.grow g1) _ fun B ⟨d', lb, s1, s2, k⟩ w H2 g2 p2 =>
    ⟨d, d', dp_gr (gr_dels1.trans g2) _ _ (la _ _ p), dp_gr gr_dels1 _ _ (lb _ _ p2), s1, s2, q _ k _ H2 (g1.trans g2) (.bl _)⟩
theorem wr_neD (h : DatR K Γ ta tb fun d d' => SeqAt.shaped d = true ∧ SeqAt.shaped d' = true ∧ Φ (aB K (!PyData.eqv d d'))) : WR Γ (tOp (rNeD K) ta tb) Φ := fun O0 H0 σ H e Q q =>
  h O0 H0 σ H e _ fun A ⟨d, la, hb⟩ v H1 g1 p => hb O0 H0 σ H1 (e.grow g1) _ fun B ⟨d', lb, s1, s2, k⟩ w H2 g2 p2 =>
    ⟨d, d', dp_gr (gr_dels1.trans g2) _ _ (la _ _ p), dp_gr gr_dels1 _ _ (lb _ _ p2), s1, s2, q _ k _ H2 (g1.trans g2) (.bl _)⟩
/-! ### tests -/
theorem wt_test (h : WR Γ te fun A => ∃ b, Le A (aB K b) ∧ B b) : WT Γ (tTest te) B := fun O0 H0 σ H e Q q => h O0 H0 σ H e _ fun A ⟨b, la, k⟩ v H1 g p => ⟨b, dp_bl (la _ _ p), q b k H1 g⟩
theorem wt_B (h : WR Γ te fun A => ∃ b, Le A (aB K b) ∧ B b) : WT Γ (tB te) B := fun O0 H0 σ H e Q q => h O0 H0 σ H e _ fun A ⟨b, la, k⟩ v H1 g p => ⟨b, dp_bl (la _ _ p), q b k H1 g⟩
theorem wt_not (h : WT Γ t fun b => B (!b)) : WT Γ (tNot t) B := fun O0 H0 σ H e Q q => h O0 H0 σ H e _ fun b k H1 g => q _ k H1 g
theorem wt_and (h : WT Γ t fun a => (a = true → WT Γ u B) ∧ (a = false → B false)) : WT Γ (tAnd t u) B := fun O0 H0 σ H e Q q => h O0 H0 σ H e _ fun a k H1 g => by
  cases a with
  | true => exact iteT (k.1 rfl O0 H0 σ H1 (e.grow g) Q fun b x H2 g2 => q b x H2 (g.trans g2))
  | false => exact iteF (q false (k.2 rfl) H1 g)
theorem wt_or (h : WT Γ t fun a => (a = true → B true) ∧ (a = false → WT Γ u B)) : WT Γ (tOr t u) B := fun O0 H0 σ H e Q q => h O0 H0 σ H e _ fun a k H1 g => by
  cases a with
  | true => exact iteT (q true (k.1 rfl) H1 g)
  | false => exact iteF (k.2 rfl O0 H0 σ H1 (e.grow g) Q fun b x H2 g2 => q b x H2 (g.trans g2))
theorem wt_yes (h : B true) : WT Γ tYes B := fun O0 H0 σ H e Q q => q true h H (Gr.refl H)
theorem wr_if (h : WT Γ t fun b => (b = true → WR Γ ta Φ) ∧ (b = false → WR Γ tb Φ)) : WR Γ (tIf t ta tb) Φ := fun O0 H0 σ H e Q q => h O0 H0 σ H e _ fun b k H1 g => by
  cases b with
  | true => exact iteT (k.1 rfl O0 H0 σ H1 (e.grow g) Q fun A a v H2 g2 p => q A a v H2 (g.trans g2) p)
  | false => exact iteF (k.2 rfl O0 H0 σ H1 (e.grow g) Q fun A a v H2 g2 p => q A a v H2 (g.trans g2) p)
theorem wr_andV (h : WR Γ ta fun A => ∃ a, Le A (aB K a) ∧ (a = true → WR Γ tb Φ) ∧ (a = false → Φ (aB K false))) : WR Γ (tAndV ta tb) Φ := fun O0 H0 σ H e Q q => h O0 H0 σ H e _ fun A ⟨a, la, k1, k2⟩ v H1 g p => ⟨a, dp_bl (la _ _ p), by
  cases a with
  | true => exact iteT (k1 rfl O0 H0 σ H1 (e.grow g) Q fun A a v H2 g2 p => q A a v H2 (g.trans g2) p)
  | false => exact iteF (q _ (k2 rfl) _ H1 g (.bl _))⟩
theorem wr_orV (h : WR Γ ta fun A => ∃ a, Le A (aB K a) ∧ (a = true → Φ (aB K true)) ∧ (a = false → WR Γ tb Φ)) : WR Γ (tOrV ta tb) Φ := fun O0 H0 σ H e Q q => h O0 H0 σ H e _ fun A ⟨a, la, k1, k2⟩ v H1 g p => ⟨a, dp_bl (la _ _ p), by
  cases a with
  | true => exact iteT (q _ (k1 rfl) _ H1 g (.bl _))
  | false => exact iteF (k2 rfl O0 H0 σ H1 (e.grow g) Q fun A a v H2 g2 p => q A a v H2 (g.trans g2) p)⟩
theorem wr_notV (h : WR Γ ta fun A => ∃ a, Le A (aB K a) ∧ Φ (aB K (!a))) : WR Γ (tNotV ta) Φ := fun O0 H0 σ H e Q q => h O0 H0 σ H e _ fun A ⟨a, la, k⟩ v H1 g p => ⟨a, dp_bl (la _ _ p), q _ k _ H1 g (.bl _)⟩
/-! ### items, lengths -/
theorem wr_ixT (h : WR Γ ta fun A => ∃ As, Le A (aT K As) ∧ WR Γ tb fun B => ∃ (k : Nat) (A' : AV), Le B (aI K (k : Int)) ∧ As[k]? = some A' ∧ Φ A') : WR Γ (tOp (rIxT K) ta tb) Φ := fun O0 H0 σ H e Q q =>
  h O0 H0 σ H e _ fun A ⟨As, la, hb⟩ v H1 g1 p => hb O0 H0 σ H1 (e.grow g1) _ fun B ⟨k, A', lb, hk, a⟩ w H2 g2 p2 => by
    obtain ⟨r, xs, rfl, hs, hx⟩ := la _ _ p
    obtain ⟨x, hx1, hx2⟩ := allV_get hx hk
    exact ⟨r, xs, (k : Int), x, rfl, dp_int (lb _ _ p2), (gr_dels1.trans g2).sqt hs, atI_nat hx1, q A' a x H2 (g1.trans g2) (A'.g _ _ _ (gr_delsM g2) hx2)⟩
theorem wr_ixL (h : WR Γ ta fun A => ∃ As, Le A (aQ K As) ∧ WR Γ tb fun B => ∃ (k : Nat) (A' : AV), Le B (aI K (k : Int)) ∧ As[k]? = some A' ∧ Φ A') : WR Γ (tOp (rIxL K) ta tb) Φ := fun O0 H0 σ H e Q q =>
  h O0 H0 σ H e _ fun A ⟨As, la, hb⟩ v H1 g1 p => hb O0 H0 σ H1 (e.grow g1) _ fun B ⟨k, A', lb, hk, a⟩ w H2 g2 p2 => by
    obtain ⟨r, xs, rfl, hs, hx⟩ := la _ _ p
    obtain ⟨x, hx1, hx2⟩ := allV_get hx hk
    exact ⟨r, xs, (k : Int), x, rfl, dp_int (lb _ _ p2), (gr_dels1.trans g2).sql hs, atI_nat hx1, q A' a x H2 (g1.trans g2) (A'.g _ _ _ (gr_delsM g2) hx2)⟩
/-- a list or a tuple of so many items -/
def HasLen (K : PySem.W.Frag) (A : AV) (n : Nat) : Prop := ∀ v H, A.P v H → ∃ p ys, v = .ref p ∧ (SqL K H p ys ∨ SqT K H p ys) ∧ ys.length = n
theorem hl_T {A : AV} {As : List AV} (h : Le A (aT K As)) : HasLen K A As.length := fun v H p => by
  obtain ⟨r, xs, e, hs, hx⟩ := h _ _ p
  exact ⟨r, xs, e, .inr hs, allV_len hx⟩
theorem hl_Q {A : AV} {As : List AV} (h : Le A (aQ K As)) : HasLen K A As.length := fun v H p => by
  obtain ⟨r, xs, e, hs, hx⟩ := h _ _ p
  exact ⟨r, xs, e, .inl hs, allV_len hx⟩
theorem wr_len (h : WR Γ te fun A => ∃ n : Nat, HasLen K A n ∧ Φ (aI K (n : Int))) : WR Γ (tCB (Tp.rLen K) (tCons te tNil)) Φ := fun O0 H0 σ H e Q q =>
  h O0 H0 σ H e _ fun A ⟨n, ha, k⟩ v H1 g p => by
    obtain ⟨r, ys, rfl, hs, hl⟩ := ha _ _ p
    refine ⟨r, ys, rfl, hs.imp gr_dels1.sql gr_dels1.sqt, q _ k _ H1 g ?_⟩
    rw [hl]
    exact .int _
theorem wr_lenO {i : Nat} {p : Addr} {As : List AV} (h : Γ[i]? = some (.own p (oL As))) (k : Φ (aI K (As.length : Nat))) : WR Γ (tCB (Tp.rLen K) (tCons (tVar i) tNil)) Φ := fun O0 H0 σ H e Q q => by
  obtain ⟨h1, o, h2, xs, rfl, h4⟩ := e.own h
  exact ⟨_, h1, p, xs, rfl, .inl (SqL.of h2), q _ k _ H (Gr.refl H) (by rw [allV_len h4]; exact .int _)⟩
/-! ### tuple(xs), list(xs) -/
theorem wr_tupOf (h : WR Γ te fun A => ∃ As, Le A (aQ K As) ∧ Φ (aT K As)) : WR Γ (tCB (rTupOf K) (tCons te tNil)) Φ := fun O0 H0 σ H e Q q =>
  h O0 H0 σ H e _ fun A ⟨As, la, k⟩ v H1 g p => by
    obtain ⟨r, ys, rfl, hs, hl⟩ := la _ _ p
    refine ⟨r, ys, rfl, .inl ⟨gr_dels1.sql hs, fun l hn => ?_⟩⟩
    obtain ⟨n1, n2⟩ := new_cut (o := .tup ys) (e.grow g) hn
    exact q _ k _ _ (g.trans (Gr.new hn)) ⟨l, ys, rfl, Evl.st_of n1, allV_grow n2 hl⟩
theorem wr_tupOfT (h : WR Γ te fun A => ∃ As, Le A (aT K As) ∧ Φ A) : WR Γ (tCB (rTupOf K) (tCons te tNil)) Φ := fun O0 H0 σ H e Q q =>
  h O0 H0 σ H e _ fun A ⟨As, la, k⟩ v H1 g p => by
    obtain ⟨r, ys, rfl, hs, hl⟩ := la _ _ p
    exact ⟨r, ys, rfl, .inr ⟨gr_dels1.sqt hs, q _ k _ H1 g p⟩⟩
theorem fr_lstOf (h : WR Γ te fun A => ∃ As, (Le A (aQ K As) ∨ Le A (aT K As)) ∧ Ψ (oL As)) : FR Γ (tCB (rLstOf K) (tCons te tNil)) Ψ := fun O0 H0 σ H e Q q =>
  h O0 H0 σ H e _ fun A ⟨As, la, k⟩ v H1 g p => by
    rcases la with la | la
    · obtain ⟨r, ys, rfl, hs, hl⟩ := la _ _ p
      exact ⟨r, ys, rfl, .inl (gr_dels1.sql hs), fun l hn => q _ k l _ H1 g hn ⟨ys, rfl, hl⟩⟩
    · obtain ⟨r, ys, rfl, hs, hl⟩ := la _ _ p
      exact ⟨r, ys, rfl, .inr (gr_dels1.sqt hs), fun l hn => q _ k l _ H1 g hn ⟨ys, rfl, hl⟩⟩
end
end G.J

set_option maxHeartbeats 400000
/-! Rules: targets, statements, walks, loops, comprehensions, calls. -/
namespace G.J
open PySem PySem.Spec PyProof.Rows L2 Tp G
theorem wipe_get : ∀ (vs : List Nat) (σ : L2.St) (i : Nat), (wipe σ vs)[i]? = if i ∈ vs then (if i < σ.length then some none else none) else σ[i]?
  | [], σ, i => by simp [wipe]
  | v :: vs, σ, i => by
    unfold wipe
    by_cases q : v = i
    · subst q
      rw [List.getElem?_set, wipe_length]
      simp
    · rw [List.getElem?_set_ne q, wipe_get vs σ i]
      have : i ∈ v :: vs ↔ i ∈ vs := List.mem_cons.trans ⟨fun h => h.resolve_left fun z => q z.symm, .inr⟩
      simp only [this]
theorem wipe_set {vs : List Nat} {σ : L2.St} {i : Nat} {x : Option V} (h : i ∈ vs) : wipe (σ.set i x) vs = wipe σ vs := List.ext_getElem? fun j => by
  rw [wipe_get, wipe_get]
  by_cases q : j ∈ vs
  · simp [q]
  · simp only [q, if_false]
    exact List.getElem?_set_ne fun z => q (by rw [← z]; exact h)
def wipeG (Γ : List SK) : List Nat → List SK
  | [] => Γ
  | v :: vs => (wipeG Γ vs).set v .any
theorem EnvR.forget {O0 : List Addr} {H0 H : Hp} {Γ : List SK} {σ : L2.St} (e : EnvR O0 H0 Γ σ H) (i : Nat) (x : Option V) : EnvR O0 H0 (Γ.set i .any) (σ.set i x) H :=
  e.less (owns_set_sub rfl Γ i) (by simp [e.len]) fun j k hk => by
    by_cases q : i = j
    · subst q
      have hi : i < Γ.length := by
        by_cases z : i < Γ.length
        · exact z
        · rw [List.getElem?_eq_none (by simp; omega)] at hk
          cases hk
      rw [List.getElem?_set_self hi] at hk
      cases hk
      exact ⟨x, by rw [List.getElem?_set_self (by rw [e.len]; exact hi)], trivial⟩
    · rw [List.getElem?_set_ne q] at hk
      rw [List.getElem?_set_ne q]
      exact e.sl j k hk
theorem EnvR.wipe {O0 : List Addr} {H0 H : Hp} {Γ : List SK} {σ : L2.St} (e : EnvR O0 H0 Γ σ H) : ∀ vs : List Nat, EnvR O0 H0 (wipeG Γ vs) (L2.wipe σ vs) H
  | [] => e
  | v :: vs => (EnvR.wipe e vs).forget v none
/-! ### targets -/
def WGt (g : TG) (A : AV) (Γ : List SK) (S : List Nat) (k : List SK → Prop) : Prop := ∀ O0 H0 σ H v, EnvR O0 H0 Γ σ H → A.P v (cut O0 Γ H) → ∀ Q : L2.St → Hp → Prop, (∀ Γ' σ', k Γ' → EnvR O0 H0 Γ' σ' H → (∀ vs : List Nat, (∀ i ∈ S, i ∈ vs) → L2.wipe σ' vs = L2.wipe σ vs) → Q σ' H) → g v σ H Q
def WGs (g : TGs) (As : List AV) (Γ : List SK) (S : List Nat) (k : List SK → Prop) : Prop := ∀ O0 H0 σ H vs, EnvR O0 H0 Γ σ H → AllV As vs (cut O0 Γ H) → ∀ Q : L2.St → Hp → Prop, (∀ Γ' σ', k Γ' → EnvR O0 H0 Γ' σ' H → (∀ vs : List Nat, (∀ i ∈ S, i ∈ vs) → L2.wipe σ' vs = L2.wipe σ vs) → Q σ' H) → g vs σ H Q
section
variable {K : PySem.W.Frag} {Γ : List SK} {A : AV} {As : List AV} {k : List SK → Prop} {g : TG} {gs : TGs}
theorem wg_name {i : Nat} (h : k (Γ.set i (.is A))) : WGt (gName i) A Γ [i] k := fun O0 H0 σ H v e p Q q => q _ _ h (e.set i p) fun vs hv => wipe_set (hv i (by simp))
theorem wgs_nil (h : k Γ) : WGs gNil [] Γ [] k := fun O0 H0 σ H vs e p Q q => by
  cases p
  exact ⟨rfl, q _ _ h e fun _ _ => rfl⟩
theorem wgs_cons {i : Nat} (ho : ∀ A : AV, owns (Γ.set i (.is A)) = owns Γ) {S : List Nat} (h : WGs gs As (Γ.set i (.is A)) S k) : WGs (gCons (gName i) gs) (A :: As) Γ (i :: S) k := fun O0 H0 σ H vs e p Q q => by
  cases p with
  | cons p1 p2 =>
    refine ⟨_, _, rfl, ?_⟩
    refine h O0 H0 (σ.set i (some _)) H _ (e.set i p1) (by unfold cut; rw [ho A]; exact p2) Q fun Γ' σ' hk e' hw => q Γ' σ' hk e' fun vs hv => ?_
    rw [hw vs fun j hj => hv j (List.mem_cons_of_mem _ hj)]
    exact wipe_set (hv i (by simp))
theorem wg_tup {n : Nat} {S : List Nat} (h : ∃ As, Le A (aT K As) ∧ As.length = n ∧ WGs gs As Γ S k) : WGt (gTup K n gs) A Γ S k := fun O0 H0 σ H v e p Q q => by
  obtain ⟨As, la, hl, h⟩ := h
  obtain ⟨r, xs, rfl, hs, hx⟩ := la _ _ p
  exact ⟨r, xs, rfl, gr_dels1.sqt hs, by rw [allV_len hx, hl], h O0 H0 σ H xs e hx Q q⟩
end
/-! ### statements -/
section
variable {K : PySem.W.Frag} {Γ : List SK} {te : TE} {ta : TA} {t u : TS} {c : TT} {E : EA} {i : Nat}
theorem ws_mono {E' : EA} (h : WS Γ t E) (k : ∀ O0 H0 D, Fits O0 H0 E' D → Fits O0 H0 E D) : WS Γ t E' := fun O0 H0 σ H e D f => h O0 H0 σ H e D (k _ _ _ f)
theorem ws_seq (h : WS Γ t { E with nx := fun Γ' => WS Γ' u E }) : WS Γ (tSeq t u) E := fun O0 H0 σ H e D f => h O0 H0 σ H e { D with nx := u D } ⟨fun Γ' σ' H' w e' => w O0 H0 σ' H' e' D f, f.rt, f.bk, f.ct, f.xc, f.rf⟩
theorem ws_next (h : E.nx Γ) : WS Γ tNext E := fun O0 H0 σ H e D f => f.nx _ _ _ h e
theorem ws_asg (h : WR Γ te fun A => E.nx (Γ.set i (.is A))) : WS Γ (tAsg te (gName i)) E := fun O0 H0 σ H e D f => h O0 H0 σ H e _ fun A k v H1 g p => f.nx _ _ _ k ((e.grow g).set i p)
theorem ws_asgN (h : FR Γ te fun c => ∀ p, E.nx (Γ.set i (.own p c))) : WS Γ (tAsg te (gName i)) E := fun O0 H0 σ H e D f => h O0 H0 σ H e _ fun c k p o H1 g hp r => f.nx _ _ _ (k p) ((e.grow g).setNew i hp r)
theorem ws_asgT {g : TG} {S : List Nat} (h : WR Γ te fun A => WGt g A Γ S E.nx) : WS Γ (tAsg te g) E := fun O0 H0 σ H e D f => h O0 H0 σ H e _ fun A k v H1 g p => k O0 H0 σ H1 v (e.grow g) p _ fun Γ' σ' hk e' _ => f.nx _ _ _ hk e'
theorem ws_par {i j : Nat} (h : WA Γ ta fun As => ∃ A B, As = [A, B] ∧ owns (Γ.set i (.is A)) = owns Γ ∧ E.nx ((Γ.set i (.is A)).set j (.is B))) : WS Γ (tPar i j ta) E := fun O0 H0 σ H e D f => h O0 H0 σ H e _ fun As ⟨A, B, hA, ho, k⟩ vs H1 g p => by
  subst hA
  cases p with
  | cons p1 p =>
    cases p with
    | cons p2 p =>
      cases p
      exact ⟨_, _, rfl, f.nx _ _ _ k (((e.grow g).set i p1).set j (by unfold cut; rw [ho]; exact p2))⟩
theorem ws_ret (h : WR Γ te E.rt) : WS Γ (tRet te) E := fun O0 H0 σ H e D f => h O0 H0 σ H e _ fun A k v H1 g p => f.rt A v H1 k (e.gr.trans g) (fun q hq => (e.out q hq).grow g) (A.g _ _ _ (gr_delsS fun a ha => List.mem_append_left _ ha) p)
theorem ws_retF (h : FR Γ te E.rf) : WS Γ (tRet te) E := fun O0 H0 σ H e D f => h O0 H0 σ H e _ fun c k p o H1 g hp r => by
  have e1 := e.grow g
  refine f.rf c p o _ k ((e.gr.trans g).trans (Gr.new hp)) (fun q hq => (e1.out q hq).grow (Gr.new hp)) (fun z => e1.fresh hp (List.mem_append_left _ z)) ((e.gr.trans g).back hp) upd_same (c.g _ _ _ (gr_of_ex fun a u q => ?_) r)
  obtain ⟨n, q⟩ := dels_some q
  have ne : a ≠ p := ne_of_none q hp
  rw [dels_out fun z => by
    rcases List.mem_cons.mp z with z | z
    · exact ne z
    · exact n (List.mem_append_left _ z), upd_ne ne]
  exact q
theorem ws_retOF {p : Addr} {c : OC} (hi : Γ[i]? = some (.own p c)) (h : E.rf c) : WS Γ (tRet (tVar i)) E := fun O0 H0 σ H e D f => by
  obtain ⟨h1, o, h2, h4⟩ := e.own hi
  have hp : p ∈ owns Γ := owns_at hi (by simp [ownOf])
  refine ⟨_, h1, f.rf c p o H h e.gr e.out (e.ap p hp) (e.fr p hp) h2 (c.g _ _ _ (gr_delsS fun a ha => ?_) h4)⟩
  rcases List.mem_cons.mp ha with rfl | z
  · exact List.mem_append_right _ hp
  · exact List.mem_append_left _ z
theorem ws_retN (h : E.rt (aN K)) : WS Γ tRetN E := fun O0 H0 σ H e D f => f.rt _ _ _ h e.gr e.out Dp.non
/-- a list of our own is given away -/
theorem ws_retO {p : Addr} {As : List AV} (hi : Γ[i]? = some (.own p (oL As))) (h : E.rt (aL As)) : WS Γ (tRet (tVar i)) E := fun O0 H0 σ H e D f => by
  obtain ⟨h1, o, h2, xs, rfl, h4⟩ := e.own hi
  refine ⟨_, h1, f.rt _ _ _ h e.gr e.out ⟨p, xs, rfl, ?_, allV_grow (gr_delsS fun a ha => List.mem_append_left _ ha) h4⟩⟩
  rw [dels_out (e.ap p (owns_at hi (by simp [ownOf])))]
  exact h2
theorem ws_if (h : WT Γ c fun b => (b = true → WS Γ t E) ∧ (b = false → WS Γ u E)) : WS Γ (tIfS c t u) E := fun O0 H0 σ H e D f => h O0 H0 σ H e _ fun b k H1 g => by
  cases b with
  | true => exact iteT (k.1 rfl O0 H0 σ H1 (e.grow g) D f)
  | false => exact iteF (k.2 rfl O0 H0 σ H1 (e.grow g) D f)
theorem ws_drop {P : Prop} (h : WR Γ te fun _ => E.nx Γ) : WS Γ (tDrop te) E := fun O0 H0 σ H e D f => h O0 H0 σ H e _ fun A k v H1 g p => f.nx _ _ _ k (e.grow g)
/-- list of our own: append -/
theorem ws_append {p : Addr} {As : List AV} (hi : Γ[i]? = some (.own p (oL As))) (hl : As.length ≤ 100000) (h : WR Γ te fun A => E.nx (Γ.set i (.own p (oL (As ++ [A]))))) : WS Γ (tDrop (tBM K "list" rAppend (tVar i) (tCons te tNil))) E := fun O0 H0 σ H e D f => by
  obtain ⟨h1, o, h2, xs, rfl, h4⟩ := e.own hi
  refine ⟨_, h1, .inl ⟨rfl, _, SqL.of h2⟩, h O0 H0 σ H e _ fun A k v H1 g q => ?_⟩
  obtain ⟨_, o, h2', xs', rfl, h4'⟩ := (e.grow g).own hi
  exact ⟨p, xs', v, rfl, rfl, h2', by rw [allV_len h4']; exact Nat.lt_of_le_of_lt hl (by decide), f.nx _ _ _ k ((e.grow g).write hi ⟨_, rfl, allV_app h4' (.cons q .nil)⟩)⟩
/-- what a slot alone holds is held no more -/
theorem ws_rel {p : Addr} {As : List AV} (hi : Γ[i]? = some (.own p (oL As))) (h : WS (Γ.set i (.is (aL As))) t E) : WS Γ t E := fun O0 H0 σ H e D f => by
  obtain ⟨h1, o, h2, xs, rfl, h4⟩ := e.own hi
  have hp : p ∈ owns Γ := owns_at hi (by simp [ownOf])
  -- the slot as 'is': seen without p
  have hi' : i < Γ.length := (List.getElem?_eq_some_iff.mp hi).1
  have np : p ∉ owns (Γ.set i (.is (aL As))) := by
    have key : ∀ (Γ : List SK) (i : Nat) (c : OC), (owns Γ).Nodup → Γ[i]? = some (.own p c) → p ∉ owns (Γ.set i (.is (aL As))) := by
      intro Γ
      induction Γ with
      | nil => intro i c _ h; simp at h
      | cons a Γ ih =>
        intro i c nd h
        cases i with
        | zero =>
          simp at h
          subst h
          have nd : ([p] ++ owns Γ).Nodup := nd
          exact (List.nodup_cons.mp nd).1
        | succ i =>
          have nd : (ownOf a ++ owns Γ).Nodup := nd
          have h : Γ[i]? = some (.own p c) := by simpa using h
          show p ∉ ownOf a ++ owns (Γ.set i (.is (aL As)))
          rw [List.mem_append, not_or]
          refine ⟨fun z => ?_, ih i c (nd.sublist (List.sublist_append_right _ _)) h⟩
          exact (List.nodup_append.mp nd).2.2 p z p (owns_at h (by simp [ownOf])) rfl
    exact key Γ i _ e.nd hi
  refine h O0 H0 σ H ⟨e.gr, e.out, fun q hq => e.fr q ((owns_set_sub rfl Γ i).subset hq), e.nd.sublist (owns_set_sub rfl Γ i), fun q hq => e.ap q ((owns_set_sub rfl Γ i).subset hq), by simp [e.len], fun j k hk => ?_⟩ D f
  have sub : ∀ a ∈ O0 ++ owns (Γ.set i (.is (aL As))), a ∈ O0 ++ owns Γ := fun a ha => by
    rcases List.mem_append.mp ha with z | z
    · exact List.mem_append_left _ z
    · exact List.mem_append_right _ ((owns_set_sub rfl Γ i).subset z)
  by_cases q : i = j
  · subst q
    rw [List.getElem?_set_self hi'] at hk
    cases hk
    refine ⟨_, h1, _, rfl, p, xs, rfl, ?_, allV_grow (gr_delsS sub) h4⟩
    rw [dels_out fun z => by
      rcases List.mem_append.mp z with z | z
      · exact e.ap p hp z
      · exact np z]
    exact h2
  · rw [List.getElem?_set_ne q] at hk
    obtain ⟨x, h1, h2⟩ := e.sl j k hk
    exact ⟨x, h1, h2.fewer sub⟩
/-- a slot is told less -/
theorem ws_le {A B : AV} (hi : Γ[i]? = some (.is A)) (l : Le A B) (h : WS (Γ.set i (.is B)) t E) : WS Γ t E := fun O0 H0 σ H e D f =>
  h O0 H0 σ H (e.tell i rfl fun x hx => by
    obtain ⟨v, h1, h2⟩ := e.is hi
    rw [h1] at hx
    cases hx
    exact ⟨v, rfl, l _ _ h2⟩) D f
theorem ws_any (i : Nat) (h : WS (Γ.set i .any) t E) : WS Γ t E := fun O0 H0 σ H e D f => h O0 H0 σ H (e.tell i rfl fun _ _ => trivial) D f
theorem ws_break (h : E.bk Γ) : WS Γ tBreak E := fun O0 H0 σ H e D f => f.bk _ _ _ h e
theorem ws_cont (h : E.ct Γ) : WS Γ tCont E := fun O0 H0 σ H e D f => f.ct _ _ _ h e
theorem ws_while {m : Nat} (I : Nat → List SK → Prop) (h0 : I m Γ) (h : ∀ m Γ', I m Γ' → WT Γ' c fun b => (b = true → WS Γ' t { E with nx := fun Γ'' => ∃ m', m' < m ∧ I m' Γ'', ct := fun Γ'' => ∃ m', m' < m ∧ I m' Γ'', bk := E.nx }) ∧ (b = false → E.nx Γ')) : WS Γ (tWhile c t) E := fun O0 H0 σ H e D f => by
  refine ⟨fun m σ H => ∃ Γ', I m Γ' ∧ EnvR O0 H0 Γ' σ H, ⟨m, Γ, h0, e⟩, ?_⟩
  rintro m σ H ⟨Γ', i, e⟩
  refine h m Γ' i O0 H0 σ H e _ fun b k H1 g => ?_
  cases b with
  | true =>
    refine iteT ⟨fun σ' H' => ∃ m', m' < m ∧ ∃ Γ'', I m' Γ'' ∧ EnvR O0 H0 Γ'' σ' H', fun σ' H' ⟨m', hm, Γ'', i', e'⟩ => ⟨m', hm, Γ'', i', e'⟩, ?_⟩
    exact k.1 rfl O0 H0 σ H1 (e.grow g) _ ⟨fun Γ'' σ' H' ⟨m', hm, i'⟩ e' => ⟨m', hm, Γ'', i', e'⟩, f.rt, f.nx, fun Γ'' σ' H' ⟨m', hm, i'⟩ e' => ⟨m', hm, Γ'', i', e'⟩, f.xc, f.rf⟩
  | false => exact iteF (f.nx _ _ _ (k.2 rfl) (e.grow g))
end
/-! ### walks -/
def YA (As : List AV) (B : Hp) : Nat → Hp → V → Hp → Prop := fun i H x H' => Gr H H' ∧ ∃ A, As[i]? = some A ∧ ∀ O, (∀ p ∈ O, Hid H p) → Gr B (dels O H') → A.P x (dels O H')
def WI (Γ : List SK) (wi : TI) (Φ : List AV → Prop) : Prop := ∀ O0 H0 σ H, EnvR O0 H0 Γ σ H → ∀ R : It → Hp → Prop, (∀ As, Φ As → ∀ J H1, Gr H H1 → Walk J As.length (fun H' => Gr (cut O0 Γ H1) H') (YA As (cut O0 Γ H1)) → R J H1) → wi σ H R
section
variable {K : PySem.W.Frag} {Γ : List SK} {te : TE} {ta : TA} {tb : TS} {wi : TI} {g : TG} {E : EA} {Φs : List AV → Prop}
theorem ya_of {As : List AV} {xs : List V} {B H H' : Hp} {i : Nat} {x : V} (hx : AllV As xs B) (y : YAt xs i H x H') : YA As B i H x H' := by
  obtain ⟨rfl, h⟩ := y
  refine ⟨Gr.refl _, ?_⟩
  have hi : i < As.length := by
    rw [← allV_len hx]
    exact (List.getElem?_eq_some_iff.mp h).1
  obtain ⟨v, h1, h2⟩ := allV_get hx (List.getElem?_eq_getElem hi)
  rw [h] at h1
  cases h1
  exact ⟨_, List.getElem?_eq_getElem hi, fun O _ g => As[i].g _ _ _ g h2⟩
theorem wi_list (h : WR Γ te fun A => ∃ As, Le A (aQ K As) ∧ Φs As) : WI Γ (iList K te) Φs := fun O0 H0 σ H e R r =>
  h O0 H0 σ H e _ fun A ⟨As, la, k⟩ v H1 g p => by
    obtain ⟨a, xs, rfl, hs, hx⟩ := la _ _ p
    refine ⟨a, rfl, ⟨xs, gr_dels1.sql hs⟩, r As k _ H1 g ?_⟩
    rw [← allV_len hx]
    exact walk_list.mono (fun H' g' => g'.sql hs) fun i H x H' _ _ y => ya_of hx y
theorem wi_tup (h : WR Γ te fun A => ∃ As, Le A (aT K As) ∧ Φs As) : WI Γ (iTup K te) Φs := fun O0 H0 σ H e R r =>
  h O0 H0 σ H e _ fun A ⟨As, la, k⟩ v H1 g p => by
    obtain ⟨a, xs, rfl, hs, hx⟩ := la _ _ p
    refine ⟨a, rfl, ⟨xs, gr_dels1.sqt hs⟩, r As k _ H1 g ?_⟩
    rw [← allV_len hx]
    exact walk_tup.mono (fun H' g' => g'.sqt hs) fun i H x H' _ _ y => ya_of hx y
theorem wi_seq (h : WR Γ te fun A => ∃ As, (Le A (aQ K As) ∨ Le A (aT K As)) ∧ Φs As) : WI Γ (iSeq K te) Φs := fun O0 H0 σ H e R r =>
  h O0 H0 σ H e _ fun A ⟨As, la, k⟩ v H1 g p => by
    rcases la with la | la
    · obtain ⟨a, xs, rfl, hs, hx⟩ := la _ _ p
      refine ⟨a, rfl, .inl ⟨⟨xs, gr_dels1.sql hs⟩, r As k _ H1 g ?_⟩⟩
      rw [← allV_len hx]
      exact walk_list.mono (fun H' g' => g'.sql hs) fun i H x H' _ _ y => ya_of hx y
    · obtain ⟨a, xs, rfl, hs, hx⟩ := la _ _ p
      refine ⟨a, rfl, .inr ⟨⟨xs, gr_dels1.sqt hs⟩, r As k _ H1 g ?_⟩⟩
      rw [← allV_len hx]
      exact walk_tup.mono (fun H' g' => g'.sqt hs) fun i H x H' _ _ y => ya_of hx y
def rngA (K : PySem.W.Frag) (n : Nat) : List AV := (List.range n).map fun (k : Nat) => aI K (k : Int)
theorem rngA_at {n k : Nat} {A : AV} (h : (rngA K n)[k]? = some A) : k < n ∧ A = aI K (k : Int) := by
  unfold rngA at h
  rw [List.getElem?_map] at h
  by_cases q : k < n
  · rw [List.getElem?_range q] at h
    exact ⟨q, by simpa using h.symm⟩
  · rw [List.getElem?_eq_none (by simpa using q)] at h
    cases h
theorem rngA_len {n : Nat} : (rngA K n).length = n := by simp [rngA]
theorem wi_rng1 (h : WR Γ te fun A => ∃ n : Nat, Le A (aI K (n : Int)) ∧ n ≤ 1000000 ∧ Φs (rngA K n)) : WI Γ (iRng1 (tCons te tNil)) Φs := fun O0 H0 σ H e R r =>
  h O0 H0 σ H e _ fun A ⟨n, la, hn, k⟩ v H1 g p => by
    refine ⟨(n : Int), by rw [dp_int (la _ _ p)], by omega, by omega, r _ k _ H1 g ?_⟩
    rw [rngA_len, Int.toNat_natCast]
    refine walk_range.mono (fun _ _ => trivial) fun i H x H' hi _ y => ?_
    obtain ⟨rfl, rfl⟩ := y
    refine ⟨Gr.refl _, aI K (i : Int), ?_, fun O _ _ => ?_⟩
    · unfold rngA
      rw [List.getElem?_map, List.getElem?_range hi]
      rfl
    · show Dp K _ (V.int (0 + (i : Int))) (.int (i : Int))
      rw [Int.zero_add]
      exact .int _
theorem ws_for (h : WI Γ wi fun As => ∃ I : Nat → List SK → Prop, I 0 Γ ∧ (∀ k A Γ', As[k]? = some A → I k Γ' → ∃ S, WGt g A Γ' S fun Γ'' => WS Γ'' tb { E with nx := I (k + 1), ct := I (k + 1), bk := E.nx }) ∧ ∀ Γ', I As.length Γ' → E.nx Γ') : WS Γ (tFor wi g tb) E := fun O0 H0 σ H e D f => by
  refine h O0 H0 σ H e _ fun As ⟨I, i0, step, last⟩ J H1 g1 w => ?_
  have e1 := e.grow g1
  have e2 := e1.here
  have up := e1.up
  have gcut : Gr (cut O0 Γ H1) (dels (owns Γ) H1) := gr_delsS fun a ha => List.mem_append_right _ ha
  refine for_it w (fun i σ' H' => ∃ Γ', I i Γ' ∧ EnvR O0 (dels (owns Γ) H1) Γ' σ' H') ⟨Γ, i0, e2⟩ (fun i σ' H' _ ⟨Γ', _, e'⟩ => gcut.trans e'.gr) ?_ ?_
  · rintro i x σ' H' H'' hi ⟨Γ', ii, e'⟩ ⟨gy, A, hA, hx⟩
    have e'' := e'.grow gy
    have seen : Gr (cut O0 Γ H1) (cut O0 Γ' H'') := by
      have z := e''.seen (Γ := Γ) fun p hp => dels_in hp
      rwa [cut_here] at z
    obtain ⟨S, st⟩ := step i A Γ' hA ii
    refine st O0 _ σ' H'' x e'' (hx _ (fun p hp => e'.there hp) seen) _ fun Γ2 σ2 ws e2 _ => ?_
    refine ws O0 _ σ2 H'' e2 _ ⟨fun Γ3 σ3 H3 k3 e3 => ⟨Γ3, k3, e3⟩, fun A v H3 r3 g3 => f.rt A v H3 r3 (up.trans g3), fun Γ3 σ3 H3 k3 e3 => f.nx _ _ _ k3 (e3.rebase up), fun Γ3 σ3 H3 k3 e3 => ⟨Γ3, k3, e3⟩, fun C f' A v d H3 r3 g3 => f.xc C f' A v d H3 r3 (up.trans g3), fun c q o H3 r3 g3 ho nq hq => f.rf c q o H3 r3 (up.trans g3) ho nq (up.back hq)⟩
  · rintro σ' H' ⟨Γ', ii, e'⟩
    exact f.nx _ _ _ (last Γ' ii) (e'.rebase up)
/-! ### comprehensions -/
theorem EnvR.shield {O0 : List Addr} {H0 H : Hp} {Γ : List SK} {σ : L2.St} {D : Addr} {o : HO} (ho : IsH o) (e : EnvR O0 H0 Γ σ H) (hD : H D = none) : EnvR (D :: O0) H0 Γ σ (upd H D o) := by
  have gn : Gr H (upd H D o) := Gr.new hD
  have gc : Gr (cut O0 Γ H) (cut (D :: O0) Γ (upd H D o)) := gr_of_ex fun a u q => by
    obtain ⟨n, q⟩ := dels_some q
    have ne : a ≠ D := ne_of_none q hD
    unfold cut
    rw [dels_out fun z => by
      rcases List.mem_cons.mp z with z | z
      · exact ne z
      · exact n z, upd_ne ne]
    exact q
  refine ⟨e.gr.trans gn, fun p hp => ?_, e.fr, e.nd, fun p hp z => ?_, e.len, fun i k hk => ?_⟩
  · rcases List.mem_cons.mp hp with rfl | hp
    · exact ⟨o, upd_same, ho⟩
    · exact (e.out p hp).grow gn
  · rcases List.mem_cons.mp z with rfl | z
    · exact (e.there (List.mem_append_right _ hp)).ne hD
    · exact e.ap p hp z
  · obtain ⟨x, h1, h2⟩ := e.sl i k hk
    refine ⟨x, h1, ?_⟩
    cases k with
    | any => trivial
    | is a =>
      obtain ⟨v, e1, e2⟩ := h2
      exact ⟨v, e1, a.g _ _ _ gc e2⟩
    | own r c =>
      obtain ⟨e1, o', e2, e3⟩ := h2
      exact ⟨e1, o', by rw [upd_ne (ne_of_none e2 hD)]; exact e2, c.g _ _ _ gc e3⟩
/-- what is outside of D is as it was -/
theorem EnvR.behind {O0 : List Addr} {H0 H : Hp} {Γ : List SK} {σ : L2.St} {D : Addr} {o : HO} (ho : IsH o) (e : EnvR (D :: O0) H0 Γ σ H) (h0 : H0 D = none) : EnvR (D :: O0) H0 Γ σ (upd H D o) := by
  have nD : D ∉ owns Γ := fun z => e.ap D z List.mem_cons_self
  have ec : cut (D :: O0) Γ (upd H D o) = cut (D :: O0) Γ H := dels_upd_in (by simp)
  refine ⟨e.gr.write h0, fun p hp => (e.out p hp).upd ho, e.fr, e.nd, e.ap, e.len, fun i k hk => ?_⟩
  · obtain ⟨x, h1, h2⟩ := e.sl i k hk
    refine ⟨x, h1, ?_⟩
    cases k with
    | any => trivial
    | is a =>
      obtain ⟨v, e1, e2⟩ := h2
      refine ⟨v, e1, ?_⟩
      show a.P v (cut (D :: O0) Γ (upd H D o))
      rw [ec]
      exact e2
    | own r c =>
      obtain ⟨e1, o', e2, e3⟩ := h2
      refine ⟨e1, o', ?_, ?_⟩
      · rw [upd_ne fun z => nD (by rw [← z]; exact owns_at hk (by simp [ownOf]))]
        exact e2
      · show c.R o' (cut (D :: O0) Γ (upd H D o))
        rw [ec]
        exact e3
theorem fr_lc {tt : TT} {te : TE} {vs S : List Nat} {Ψ : OC → Prop} (hS : ∀ i ∈ S, i ∈ vs) (ho : owns (wipeG Γ vs) = owns Γ)
    (h : WI Γ wi fun As => As.length ≤ 100000 ∧ ∃ I : Nat → List AV → Prop, I 0 [] ∧
      (∀ k A acc, As[k]? = some A → acc.length ≤ k → I k acc → WGt g A (wipeG Γ vs) S fun Γ' => owns Γ' = owns Γ ∧ WT Γ' tt fun b => (b = true → WR Γ' te fun B => I (k + 1) (acc ++ [B])) ∧ (b = false → I (k + 1) acc)) ∧
      ∀ acc, acc.length ≤ As.length → I As.length acc → Ψ (oL acc)) : FR Γ (tLc wi g tt te vs) Ψ := fun O0 H0 σ H e Q q => by
  refine h O0 H0 σ H e _ fun As ⟨hl, I, i0, step, last⟩ J H1 g1 w D hD => ?_
  have e1 := e.grow g1
  have hD0 : H0 D = none := e1.gr.back hD
  refine lc_it w (fun i H' => ∃ acc xs, acc.length ≤ i ∧ I i acc ∧ H' D = some (.lst xs) ∧ AllV acc xs (cut (D :: O0) Γ H') ∧ EnvR (D :: O0) H0 Γ σ H' ∧ Gr H1 H') ⟨[], [], Nat.zero_le _, i0, upd_same, .nil, e1.shield (.inl ⟨_, rfl⟩) hD, Gr.new hD⟩ (fun i H' _ ⟨_, _, _, _, _, _, _, g'⟩ => gr_dels1.trans g') ?_ ?_
  · rintro i x H' H'' hi ⟨acc, xs, la, ii, hDl, hx, e', g'⟩ ⟨gy, A, hA, hxA⟩
    have e'' := (e'.grow gy).wipe vs
    have gc : Gr (cut O0 Γ H1) (dels ((D :: O0) ++ owns (wipeG Γ vs)) H'') := fun a o z => by
      obtain ⟨n, z⟩ := dels_some z
      have ne : a ≠ D := ne_of_none z hD
      rw [dels_out fun y => by
        rw [ho] at y
        rcases List.mem_cons.mp y with y | y
        · exact ne y
        · exact n y]
      exact (g'.trans gy) a o z
    refine step i A acc hA la ii (D :: O0) H0 (L2.wipe σ vs) H'' x e'' (hxA _ (fun p hp => by rw [ho] at hp; exact e'.there hp) gc) _ fun Γ' σ2 ⟨ho', wt⟩ e2 hw => ?_
    refine ⟨by rw [hw vs hS]; exact List.ext_getElem? fun j => by rw [wipe_get, wipe_get, wipe_length]; by_cases q : j ∈ vs <;> simp [q, wipe_get], ?_⟩
    refine wt (D :: O0) H0 σ2 H'' e2 _ fun b kb H3 g3 => ?_
    have gl : H3 D = some (.lst xs) := g3.lst (gy.lst hDl)
    cases b with
    | true =>
      refine iteT (kb.1 rfl (D :: O0) H0 σ2 H3 (e2.grow g3) _ fun B kB y H4 g4 pB => ?_)
      have gl4 : H4 D = some (.lst xs) := g4.lst gl
      have e4 := (((e'.grow gy).grow g3).grow g4)
      refine ⟨xs, gl4, by rw [allV_len hx]; exact Nat.lt_of_le_of_lt (Nat.le_trans la (Nat.le_trans (Nat.le_of_lt hi) hl)) (by decide), acc ++ [B], xs ++ [y], by simp; omega, kB, upd_same, ?_, e4.behind (.inl ⟨_, rfl⟩) hD0, (((g'.trans gy).trans g3).trans g4).write hD⟩
      have ec : cut (D :: O0) Γ (upd H4 D (.lst (xs ++ [y]))) = cut (D :: O0) Γ H4 := dels_upd_in (by simp)
      rw [ec]
      refine allV_app (allV_grow (gr_delsM ((gy.trans g3).trans g4)) hx) (.cons ?_ .nil)
      have pB : B.P y (dels ((D :: O0) ++ owns Γ') H4) := pB
      rw [ho'] at pB
      exact pB
    | false =>
      exact iteF ⟨acc, xs, Nat.le_succ_of_le la, kb.2 rfl, gl, allV_grow (gr_delsM (gy.trans g3)) hx, (e'.grow gy).grow g3, (g'.trans gy).trans g3⟩
  · rintro H' ⟨acc, xs, la, ii, hDl, hx, e', g'⟩
    have eu : upd (dels [D] H') D (.lst xs) = H' := by
      funext a
      by_cases z : a = D
      · subst z
        rw [upd_same, hDl]
      · rw [upd_ne z, dels_out (by simpa using z)]
    have gd : Gr H (dels [D] H') := fun a o z => by
      have ne : a ≠ D := ne_of_none z (g1.back hD)
      rw [dels_out (by simpa using ne)]
      exact (g1.trans g') a o z
    have ec : cut O0 Γ (dels [D] H') = cut (D :: O0) Γ H' := by
      funext a
      unfold cut dels
      by_cases z : a = D
      · subst z
        simp
      · simp [z]
    have z := q _ (last acc la ii) D (.lst xs) (dels [D] H') gd (dels_in (by simp)) ⟨xs, rfl, by rw [ec]; exact hx⟩
    rwa [eu] at z
end
/-! ### calls -/
def spW (pre : List AV → (AV → Prop) → Prop) : Sp := fun vs H Q _ => ∃ As Φ O, pre As Φ ∧ (∀ p ∈ O, Hid H p) ∧ AllV As vs (dels O H) ∧ ∀ A, Φ A → ∀ v H', Gr H H' → A.P v (dels O H') → Q v H'
section
variable {K : PySem.W.Frag} {Γ : List SK} {te : TE} {ta tk : TA} {ts : TS} {Φ : AV → Prop} {pre : List AV → (AV → Prop) → Prop}
theorem wr_call (h : WA Γ ta fun As => pre As Φ) : WR Γ (tCall (spW pre) [] E0 ta) Φ := fun O0 H0 σ H e Q q =>
  h O0 H0 σ H e _ fun As hp vs H1 g ps => ⟨As, Φ, O0 ++ owns Γ, hp, fun p hp => (e.grow g).there hp, by rw [List.append_nil]; exact ps, fun A a v H2 g2 p => q A a v H2 (g.trans g2) p⟩
def IsObj (A : AV) (C : Addr) (m : Str) : Prop := ∀ v H, A.P v H → ∃ a dx fs, v = .ref a ∧ H a = some (.ins C dx fs) ∧ fs.lookup m = none
theorem wr_meth {C : Addr} {m : Str} (h : WR Γ te fun A => IsObj A C m ∧ WA Γ ta fun As => pre (A :: As) Φ) : WR Γ (tMeth C m (spW pre) [] E0 te ta) Φ := fun O0 H0 σ H e Q q =>
  h O0 H0 σ H e _ fun A ⟨io, k⟩ v H1 g p => by
    obtain ⟨a, dx, fs, rfl, ha, hm⟩ := io _ _ p
    exact ⟨a, dx, fs, rfl, (dels_some ha).2, hm, k O0 H0 σ H1 (e.grow g) _ fun As hp vs H2 g2 ps => ⟨A :: As, Φ, O0 ++ owns Γ, hp, fun p hp => ((e.grow g).grow g2).there hp, by rw [List.append_nil]; exact .cons (A.g _ _ _ (gr_delsM g2) p) ps, fun A a v H3 g3 p => q A a v H3 ((g.trans g2).trans g3) p⟩⟩
theorem fn_W {N : List Str} (h : ∀ As Φ, pre As Φ → ∃ n, N.length = As.length + n ∧ WS (As.map SK.is ++ List.replicate n SK.any) ts { nx := fun _ => Φ (aN K), rt := Φ }) (vs : List V) (H : Hp) (Q : VK) (E : XK) (hs : spW pre vs H Q E) : ts { nx := fun _ H' => Q .non H', rt := Q } (L2.start N vs) H := by
  obtain ⟨As, Φ, O, hp, out, ps, q⟩ := hs
  obtain ⟨n, hn, w⟩ := h As Φ hp
  have hl := allV_len ps
  have ho : owns (As.map SK.is ++ List.replicate n SK.any) = [] := by
    unfold owns
    rw [List.flatMap_eq_nil_iff]
    intro k hk
    rcases List.mem_append.mp hk with hk | hk
    · obtain ⟨a, _, rfl⟩ := List.mem_map.mp hk
      rfl
    · rw [List.eq_of_mem_replicate hk]
      rfl
  refine w O H _ H ⟨Gr.refl H, out, by rw [ho]; simp, by rw [ho]; simp, by rw [ho]; simp, by simp [L2.start, hl, hn], fun i k hk => ?_⟩ _ ⟨fun _ σ' H' k e => ?_, fun A v H' k g _ p => q A k v H' g p, fun _ _ _ k _ => k.elim, fun _ _ _ k _ => k.elim, fun _ _ _ _ _ _ k => k.elim, fun _ _ _ _ k => k.elim⟩
  · rw [ho, List.append_nil]
    unfold L2.start
    by_cases hi : i < As.length
    · rw [List.getElem?_append_left (by simpa using hi), List.getElem?_map, List.getElem?_eq_getElem hi] at hk
      cases hk
      obtain ⟨v, h1, h2⟩ := allV_get ps (List.getElem?_eq_getElem hi)
      exact ⟨some v, by rw [List.getElem?_append_left (by simp; omega), List.getElem?_map, h1]; rfl, v, rfl, h2⟩
    · rw [List.getElem?_append_right (by simpa using hi)] at hk
      have hk' := List.eq_of_mem_replicate (List.mem_of_getElem? hk)
      subst hk'
      have hj : i - As.length < n := by
        have := (List.getElem?_eq_some_iff.mp hk).1
        simpa using this
      refine ⟨none, ?_, trivial⟩
      rw [List.getElem?_append_right (by simp; omega), List.getElem?_replicate]
      simp
      omega
  · exact q _ k _ H' e.gr Dp.non
end
/-! ### calls that hand back a new object -/
def spF (pre : List AV → (OC → Prop) → Prop) : Sp := fun vs H Q _ => ∃ As Ψ O, pre As Ψ ∧ (∀ p ∈ O, Hid H p) ∧ AllV As vs (dels O H) ∧ ∀ c, Ψ c → ∀ p o H', Gr H H' → H p = none → H' p = some o → c.R o (dels (p :: O) H') → Q (.ref p) H'
section
variable {K : PySem.W.Frag} {Γ : List SK} {te : TE} {ta tk : TA} {ts : TS} {Ψ : OC → Prop} {pre : List AV → (OC → Prop) → Prop}
theorem fr_back {O0 : List Addr} {H0 H H' : Hp} {σ : L2.St} {c : OC} {p : Addr} {o : HO} {Q : VK} (e : EnvR O0 H0 Γ σ H) (g : Gr H H') (hp : H p = none) (h : H' p = some o) (r : c.R o (dels (p :: (O0 ++ owns Γ)) H')) (q : ∀ p o H', Gr H H' → H' p = none → c.R o (cut O0 Γ H') → Q (.ref p) (upd H' p o)) : Q (.ref p) H' := by
  have eu : upd (dels [p] H') p o = H' := by
    funext a
    by_cases z : a = p
    · subst z
      rw [upd_same, h]
    · rw [upd_ne z, dels_out (by simpa using z)]
  have gd : Gr H (dels [p] H') := fun a u z => by
    have ne : a ≠ p := ne_of_none z hp
    rw [dels_out (by simpa using ne)]
    exact g a u z
  have ec : cut O0 Γ (dels [p] H') = dels (p :: (O0 ++ owns Γ)) H' := by
    funext a
    unfold cut dels
    by_cases z : a = p
    · subst z
      simp
    · simp [z]
  have z := q p o (dels [p] H') gd (dels_in (by simp)) (by rw [ec]; exact r)
  rwa [eu] at z
theorem fr_call (h : WA Γ ta fun As => pre As Ψ) : FR Γ (tCall (spF pre) [] E0 ta) Ψ := fun O0 H0 σ H e Q q =>
  h O0 H0 σ H e _ fun As hp vs H1 g ps => ⟨As, Ψ, O0 ++ owns Γ, hp, fun p hp => (e.grow g).there hp, by rw [List.append_nil]; exact ps, fun c k p o H2 g2 np hp r => fr_back (e.grow g) g2 np hp r fun p o H3 g3 hp r => q c k p o H3 (g.trans g3) hp r⟩
theorem fr_meth {C : Addr} {m : Str} (h : WR Γ te fun A => IsObj A C m ∧ WA Γ ta fun As => pre (A :: As) Ψ) : FR Γ (tMeth C m (spF pre) [] E0 te ta) Ψ := fun O0 H0 σ H e Q q =>
  h O0 H0 σ H e _ fun A ⟨io, k⟩ v H1 g p => by
    obtain ⟨a, dx, fs, rfl, ha, hm⟩ := io _ _ p
    exact ⟨a, dx, fs, rfl, (dels_some ha).2, hm, k O0 H0 σ H1 (e.grow g) _ fun As hp vs H2 g2 ps => ⟨A :: As, Ψ, O0 ++ owns Γ, hp, fun p hp => ((e.grow g).grow g2).there hp, by rw [List.append_nil]; exact .cons (A.g _ _ _ (gr_delsM g2) p) ps, fun c k p o H3 g3 np hp r => fr_back ((e.grow g).grow g2) g3 np hp r fun p o H4 g4 hp r => q c k p o H4 ((g.trans g2).trans g4) hp r⟩⟩
theorem fn_F {N : List Str} (h : ∀ As Ψ, pre As Ψ → ∃ n, N.length = As.length + n ∧ WS (As.map SK.is ++ List.replicate n SK.any) ts { nx := fun _ => False, rt := fun _ => False, rf := Ψ }) (vs : List V) (H : Hp) (Q : VK) (E : XK) (hs : spF pre vs H Q E) : ts { nx := fun _ H' => Q .non H', rt := Q } (L2.start N vs) H := by
  obtain ⟨As, Ψ, O, hp, out, ps, q⟩ := hs
  obtain ⟨n, hn, w⟩ := h As Ψ hp
  have hl := allV_len ps
  have ho : owns (As.map SK.is ++ List.replicate n SK.any) = [] := by
    unfold owns
    rw [List.flatMap_eq_nil_iff]
    intro k hk
    rcases List.mem_append.mp hk with hk | hk
    · obtain ⟨a, _, rfl⟩ := List.mem_map.mp hk
      rfl
    · rw [List.eq_of_mem_replicate hk]
      rfl
  refine w O H _ H ⟨Gr.refl H, out, by rw [ho]; simp, by rw [ho]; simp, by rw [ho]; simp, by simp [L2.start, hl, hn], fun i k hk => ?_⟩ _ ⟨fun _ σ' H' k e => k.elim, fun A v H' k g _ p => k.elim, fun _ _ _ k _ => k.elim, fun _ _ _ k _ => k.elim, fun _ _ _ _ _ _ k => k.elim, fun c p o H' k g _ _ np hp r => q c k p o H' g np hp r⟩
  rw [ho, List.append_nil]
  unfold L2.start
  by_cases hi : i < As.length
  · rw [List.getElem?_append_left (by simpa using hi), List.getElem?_map, List.getElem?_eq_getElem hi] at hk
    cases hk
    obtain ⟨v, h1, h2⟩ := allV_get ps (List.getElem?_eq_getElem hi)
    exact ⟨some v, by rw [List.getElem?_append_left (by simp; omega), List.getElem?_map, h1]; rfl, v, rfl, h2⟩
  · rw [List.getElem?_append_right (by simpa using hi)] at hk
    have hk' := List.eq_of_mem_replicate (List.mem_of_getElem? hk)
    subst hk'
    have hj : i - As.length < n := by
      have := (List.getElem?_eq_some_iff.mp hk).1
      simpa using this
    refine ⟨none, ?_, trivial⟩
    rw [List.getElem?_append_right (by simp; omega), List.getElem?_replicate]
    simp
    omega
end
end G.J

set_option maxHeartbeats 4000000
/-! o.m(k = v, ..): a method called by name alone. -/
namespace G
open PySem PySem.Spec PyProof.Rows L2 Tp
def tMethK (C : Addr) (m : Str) (n : Nat) (sp : Sp) (gV : List V → List V → List V) (E : XK) (ta : TE) (tk : TA) : TE := fun σ H Q => ta σ H fun x H1 => ∃ (a dx : Addr) (fs : List (Str × V)), x = .ref a ∧ H1 a = some (.ins C dx fs) ∧ fs.lookup m = none ∧ tk σ H1 fun zs H2 => zs.length = n ∧ sp (gV [x] zs) H2 Q E
section
variable {X : Cx} {CX : CXT} {k : Nat} {f C : Addr} {fd : FuncData} {ps ks : List Str} {sp : Sp} {E : XK} {m : Str} {pos apos : Pos} {o : Expr} {kws : List Keyword} {ta : TE} {tk : TA} {gf : List Value → List Value → List Value} {gV : List V → List V → List V} {pl : Sem Bool}
theorem pe_methK0 (he : PE X o ta) (c : Cls X.K C) (hm : Meth X.K C m f) (F : FnOk X.prog X.w X.K X.mg X.base CX k f fd ps sp) (hr : Room k X.A) (hb : KBn X.K fd ps 1 ks gf gV) (hx : Passes CX X E) (hkw : PK X kws tk)
    (hall : (backToKw pos (keywordEach kws X.env)).all (·.1.isSome) = true := by rfl) (hks : (backToKw pos (keywordEach kws X.env)).filterMap (·.1) = ks := by rfl)
    (hpl : ((backTo pos (starEach [] X.env)).any (·.1) || (backToKw pos (keywordEach kws X.env)).any (·.1.isNone)) = false := by rfl)
    (ht : eval (.Call (.Attribute o m apos) [] kws pos) X.env = (do
      let ov ← eval o X.env
      standAt apos.atName
      let (f, first) ← holding [ov] (getMethod ov m pl)
      callWith pos f first (backTo pos (starEach [] X.env)) (backToKw pos (keywordEach kws X.env))) := by rfl) :
    PE X (.Call (.Attribute o m apos) [] kws pos) (tMethK C m ks.length sp gV E ta tk) := by
  refine ⟨fun pins s σ H Q I h => ?_⟩
  refine PySem.W.methodCall_KW (pl := pl) (thn (he.run pins s σ H _ I h) fun u s1 ⟨x, H1, I1, rx, a, dx, fs, ex, ea, l, q⟩ => ?_) ht
  subst ex
  obtain rfl : u = Value.ref a := rx
  refine getmeth_ok I1 ea c hm l ?_
  refine PySem.W.callWith_KW0 (h₀ := X.base) (first := [.ref a]) I.ok.mod.kin hm.kp hall (thn (hkw.run pos pins s1 σ H1 _ I1 q) fun ws s2 ⟨zs, H2, I2, rz, lz, q2⟩ => ⟨I2.kIn, ?_⟩) hpl
  rw [hks]
  have rv : Vals [V.ref a] [Value.ref a] := .cons rfl .nil
  exact run_fnN (us := [.ref a]) (vs := [.ref a]) F hr hb hx I2 rv rz rfl lz q2
end
end G

set_option maxHeartbeats 4000000
/-! len(x), x + y where x is an instance whose class says what they are. -/
namespace G
open PySem PySem.Spec PyProof.Rows L2 Tp
section
variable {prog : Program} {w : World} {A : Around} {E : Value → Shared → Prop} {s : Shared} {K : PySem.W.Frag} {x C f : Addr} {ox : Obj} {od : Option Obj}
theorem len_ownK {Q : Value → Shared → Prop} (X : K.In s.heap) (I : PySem.W.InstAt s.heap x ox C od) (hs : PySem.W.findIn K (.ref C) "__len__" = some (some (.ref f))) (hf : PySem.W.isFn K (.ref f) = true)
    (h : wpAny (model prog w) A.in1 (call (.ref f) [.ref x]) (fun r s' => ∃ n u, r = Value.int n u ∧ 0 ≤ n ∧ n < 2 ^ 63 ∧ Q (.int n s'.toks) { s' with toks := s'.toks + 1 }) E s) :
    wpAny (model prog w) A (call (.builtin "len") [.ref x]) Q E s := by
  refine Calls.call_function_entry kind_len plain_len entry_len (args_len1 _) ?_
  unfold Builtin.«len»
  refine wpAny_bind (m := oneArg "len" _) (wpAny_pure ?_)
  refine wpAny_bind (m := callSpecial? (.ref x) (Str.ofString "__len__")) (PySem.W.special_fn X I hs (beq_iff_eq.mp hf) (wpAny_mono h (fun r s' hr => ?_) fun _ _ y => y))
  obtain ⟨n, u, rfl, h0, h1, hq⟩ := hr
  refine wpAny_bind (wpAny_holding (wpAny_pure ?_))
  refine wpAny_bind (wpAny_letGo ?_)
  show wpAny _ _ (if n < 0 then _ else _) _ _ _
  rw [if_neg (by omega)]
  show wpAny _ _ (if n ≥ 2 ^ 63 then _ else _) _ _ _
  rw [if_neg (by omega)]
  exact wpAny_bind (wpAny_mkInt (wpAny_pure ⟨_, rfl, hq⟩))
end
section
variable {X : Cx} {k : Nat} {C f : Addr} {fd : FuncData} {ps : List Str} {sp : Sp}
/-- a def of ours called by values -/
theorem run_vals {A : Around} {pins : List (Addr × Obj)} {σ : L2.St} {H : Hp} {s : Shared} {Q : VK} {us : List Value} {vs : List V} (F : FnOk X.prog X.w X.K X.mg X.base CX0 k f fd ps sp) (bd : Binds X.K fd ps []) (hr : Room k A) (e0 : Env0 X.prog X.w X.K X.mg X.base A X.stack s H) (I : Inv X pins σ H s)
    (r : Vals vs us) (h : sp vs H Q E0) : wpAny (model X.prog X.w) A (call (.ref f) us) (EP X pins σ Q) X.xe s := by
  have ln := F.len _ _ _ _ h
  have bt : BindsTo s fd ⟨us, []⟩ (ps.zip us) := by
    have z := bd s us I.kIn (by rw [List.append_nil, ← r.length]; exact ln)
    simpa using z
  refine wpAny_call (codeAny_mono (F.run A X.stack s H ⟨us, []⟩ us vs _ E0 hr e0 bt r h) fun r s' q => ?_)
  cases r with
  | error e => exact q.elim
  | ok fl =>
    cases fl with
    | ret w => exact I.after q
    | next => exact False.elim q
    | brk => exact False.elim q
    | cont => exact False.elim q
/-- len(x) by an own __len__ -/
def rLenO (C : Addr) (sp : Sp) : List V → Hp → VK → Prop := fun xs H Q => ∃ (a dx : Addr) (fs : List (Str × V)), xs = [.ref a] ∧ H a = some (.ins C dx fs) ∧ sp [.ref a] H (fun v H' => ∃ n : Nat, v = .int (n : Int) ∧ n < 2 ^ 62 ∧ Q (.int (n : Int)) H') E0
theorem call_lenO (F : FnOk X.prog X.w X.K X.mg X.base CX0 k f fd ps sp) (at_ : PySem.W.findIn X.K (.ref C) "__len__" = some (some (.ref f))) (isf : PySem.W.isFn X.K (.ref f) = true) (bd : Binds X.K fd ps []) (hr : Room (k + 1) X.A) :
    CallR X (.builtin "len") (rLenO C sp) := by
  intro pins s σ H xs us Q I r h
  obtain ⟨a, dx, fs, rfl, ha, hsp⟩ := h
  obtain ⟨u, rfl, ru⟩ := r.one
  cases (show u = Value.ref a from ru)
  obtain ⟨mA, J, _⟩ := ins_get I.hok ha
  obtain ⟨od, J, _⟩ := J.look
  refine len_ownK I.kIn J at_ isf (wpAny_mono (run_vals (vs := [.ref a]) F bd hr.in1 I.env0.in1 I (.cons rfl .nil) hsp) (fun r s' q => ?_) fun _ _ y => y)
  obtain ⟨v, H', I', rv, n, ev, hn, hq⟩ := q
  subst ev
  obtain ⟨t, rfl⟩ := (show ∃ t, r = Value.int (n : Int) t from rv)
  exact ⟨n, t, rfl, by omega, by omega, .int (n : Int), H', I'.tok _, ⟨_, rfl⟩, hq⟩
/-- x + y by an own __add__, both of one class -/
def rAddO (C : Addr) (sp : Sp) : R2 := fun x y H Q => ∃ (a dx b dy : Addr) (fs gs : List (Str × V)), x = .ref a ∧ y = .ref b ∧ H a = some (.ins C dx fs) ∧ H b = some (.ins C dy gs) ∧ sp [x, y] H (fun v H' => (∃ q, v = .ref q) ∧ Q v H') E0
theorem op_addO (F : FnOk X.prog X.w X.K X.mg X.base CX0 k f fd ps sp) (sf : PySem.W.selfFirst X.K C = true) (at_ : PySem.W.findIn X.K (.ref C) "__add__" = some (some (.ref f))) (isf : PySem.W.isFn X.K (.ref f) = true) (bd : Binds X.K fd ps []) (hr : Room k X.A) :
    OpR X (binaryOp .Add) (rAddO C sp) := by
  intro pins s σ H x y v u Q I rx ry h
  obtain ⟨a, dx, b, dy, fs, gs, rfl, rfl, ha, hb, hsp⟩ := h
  cases (show v = Value.ref a from rx)
  cases (show u = Value.ref b from ry)
  obtain ⟨mA, J, _⟩ := ins_get I.hok ha
  obtain ⟨od, J, _⟩ := J.look
  obtain ⟨mB, J', _⟩ := ins_get I.hok hb
  obtain ⟨od', J', _⟩ := J'.look
  obtain ⟨m, hF⟩ := I.fr
  refine PySem.W.binop_K (op := .Add) hF I.ok.mod.kin J J'.type sf at_ isf (wpAny_mono (run_vals (vs := [.ref a, .ref b]) F bd hr I.env0 I (.cons rfl (.cons rfl .nil)) hsp) (fun r s' q => ?_) fun _ _ y => y)
  obtain ⟨v, H', I', rv, ⟨p, ev⟩, hq⟩ := q
  subst ev
  cases (show r = Value.ref p from rv)
  exact ⟨.ref p, H', I', rfl, hq⟩
end
end G

set_option maxHeartbeats 400000
/-! The law's own look at a frame's rows. -/
namespace G
open PySem PySem.Spec PyProof.Rows L2 Tp
section
variable {K : PySem.W.Frag} {σ : L2.St} {H : Hp} {D : Vw} {C x : Addr} {te ta tb tc tl : TE}
theorem dpAll_ints : ∀ {l : List Int} {xs : List V}, DpAll K H xs (l.map PyData.int) → xs = l.map V.int
  | [], _, h => by cases h; rfl
  | b :: bs, _, h => by
    cases h with
    | cons h1 h2 =>
      cases h1
      rw [dpAll_ints h2]
      rfl
theorem ints_dpAll : ∀ (l : List Int), DpAll K H (l.map V.int) (l.map PyData.int)
  | [] => .nil
  | b :: bs => .cons (.int b) (ints_dpAll bs)
theorem le_unique : ∀ {l m : List Int}, l.Pairwise (· ≤ ·) → m.Pairwise (· ≤ ·) → l.Perm m → l = m
  | [], m, _, _, pm => (List.Perm.nil_eq pm)
  | a :: l, [], _, _, pm => by have := pm.length_eq; simp at this
  | a :: l, b :: m, hl, hm, pm => by
    have ha := List.pairwise_cons.mp hl
    have hb := List.pairwise_cons.mp hm
    have e : a = b := by
      rcases List.mem_cons.mp (pm.mem_iff.mp List.mem_cons_self) with e | h1
      · exact e
      · rcases List.mem_cons.mp (pm.mem_iff.mpr List.mem_cons_self) with e | h2
        · exact e.symm
        · have q1 := hb.1 a h1
          have q2 := ha.1 b h2
          omega
    subst e
    rw [le_unique ha.2 hb.2 (List.Perm.cons_inv pm)]
abbrev tSortI (K : PySem.W.Frag) (te : TE) : TE := tCB (rSorted K) (tCons te tNil)
theorem em_sortI {l a : List Int} (hl : l.length < 64) (ha : a.Pairwise (· ≤ ·)) (pm : l.Perm a) (h : EvM te σ H (PF K (l.map PyData.int))) : EvM (tSortI K te) σ H (PF K (a.map PyData.int)) := fun H1 e Q q =>
  h H1 e _ fun v H2 e2 ⟨p, xs, ev, hp, hx⟩ => by
    obtain rfl := dpAll_ints hx
    refine ⟨p, l, by rw [ev], SqL.of hp, hl, fun ns z pz rising hz => ?_⟩
    obtain rfl := le_unique rising ha (pz.trans pm)
    exact q _ _ (e2.trans (Gr.new hz)) (pf_new hz (ints_dpAll ns))
/-! rows ascend -/
def subs {α : Type} : List α → List (List α)
  | [] => [[]]
  | a :: l => subs l ++ (subs l).map (a :: ·)
theorem mem_subs {α : Type} {l m : List α} (h : l.Sublist m) : l ∈ subs m := by
  induction h with
  | slnil => simp [subs]
  | cons a _ ih => exact List.mem_append_left _ ih
  | cons_cons a _ ih => exact List.mem_append_right _ (List.mem_map.mpr ⟨_, ih, rfl⟩)
def upB : List Int → Bool
  | [] => true
  | [_] => true
  | a :: b :: l => decide (a ≤ b) && upB (b :: l)
theorem up_of : ∀ {l : List Int}, upB l = true → l.Pairwise (· ≤ ·)
  | [], _ => .nil
  | [a], _ => by simp
  | a :: b :: l, h => by
    rw [upB, Bool.and_eq_true, decide_eq_true_eq] at h
    have q := up_of h.2
    refine List.pairwise_cons.mpr ⟨fun y hy => ?_, q⟩
    rcases List.mem_cons.mp hy with rfl | hy
    · exact h.1
    · have := (List.pairwise_cons.mp q).1 y hy
      omega
def allRows (f : List Pr → Int → List Int) (m : Nat → List Pr) : Bool := [1, 2, 3].all fun (w : Nat) => (subs (m w)).all fun l => (List.range w).all fun (r : Nat) => upB (f l r)
theorem rows_up {f : List Pr → Int → List Int} {m : Nat → List Pr} (h : allRows f m = true) {w : Nat} (h1 : 1 ≤ w) (h3 : w ≤ 3) {l : List Pr} (s : l.Sublist (m w)) {r : Nat} (hr : r < w) : (f l r).Pairwise (· ≤ ·) := by
  have hw : w ∈ [1, 2, 3] := by
    have : w = 1 ∨ w = 2 ∨ w = 3 := by omega
    rcases this with rfl | rfl | rfl <;> simp
  exact up_of (List.all_eq_true.mp (List.all_eq_true.mp (List.all_eq_true.mp h w hw) l (mem_subs s)) r (List.mem_range.mpr hr))
theorem up_bes : allRows besideL sideP = true := by decide +kernel
theorem up_on : allRows onL (fun w => gridP w w) = true := by decide +kernel
theorem up_back : allRows backL (fun w => gridP w w) = true := by decide +kernel
abbrev NRows : List Str := ["plan", "frame", "wide", "sidelong", "across", "rank", "here", "told_here", "due", "a", "b"]
abbrev cOn (K : PySem.W.Frag) (i : Nat) : TE := tLc (iTup K (tVar i)) (gPair K 9 10) (tEqv 9 5) (tVar 10) [9, 10]
abbrev cBack (K : PySem.W.Frag) (i : Nat) : TE := tLc (iTup K (tVar i)) (gPair K 9 10) (tEqv 10 5) (tVar 9) [9, 10]
abbrev tTupOf (K : PySem.W.Frag) (te : TE) : TE := tCB (rTupOf K) (tCons te tNil)
abbrev sBes (K : PySem.W.Frag) (C : Addr) : Sp := spRow K C fun p r => besideL p.inn r
abbrev sOn (K : PySem.W.Frag) (C : Addr) : Sp := spRow K C fun p r => onL p.out r
abbrev sBack (K : PySem.W.Frag) (C : Addr) : Sp := spRow K C fun p r => backL p.out r
abbrev tM (C : Addr) (m : Str) (sp : Sp) : TE := tMeth C m sp [] E0 (tVar 1) (tCons (tVar 5) tNil)
abbrev tMk (C : Addr) (m : Str) (sp : Sp) (gV : List V → List V → List V) : TE := tMethK C m 1 sp gV E0 (tVar 1) (tCons (tVar 5) tNil)
abbrev t3 (a b c : TE) : TE := tLst (tCons a (tCons b (tCons c tNil)))
def t_rows (K : PySem.W.Frag) (C : Addr) (g1 g2 g3 : List V → List V → List V) : TS :=
  tSeq (tAsg (tVar 0) (gTup K 3 (gCons (gName 2) (gCons (gName 3) (gCons (gName 4) gNil)))))
  (tSeq (tFor (iRng1 (tCons (tVar 2) tNil)) (gName 5)
    (tSeq (tAsg (tSortI K (tOp rCat (cOn K 3) (cBack K 3))) (gName 6))
    (tSeq (tAsg (t3 (tM C "beside" (sBes K C)) (tM C "onward" (sOn K C)) (tM C "back" (sBack K C))) (gName 7))
    (tSeq (tAsg (t3 (tTupOf K (tVar 6)) (tTupOf K (tSortI K (cOn K 4))) (tTupOf K (tSortI K (cBack K 4)))) (gName 8))
    (tIfS (tOr (tTest (tOp (rNeD K) (tVar 7) (tVar 8))) (tTest (tOp (rNeD K) (t3 (tMk C "beside" (sBes K C) g1) (tMk C "onward" (sOn K C) g2) (tMk C "back" (sBack K C) g3)) (tVar 8)))) (tRet (tC (.bl false))) tNext)))))
  (tRet (tC (.bl true))))
def spRows (K : PySem.W.Frag) (C : Addr) : Sp := fun vs H Q _ => ∃ (v : V) (x : Addr) (p : Plan), vs = [v, .ref x] ∧ p.Ok ∧ Dp K H v (planD p) ∧ FrameAt K C H x p ∧ ∀ H', Gr H H' → Q (.bl true) H'
theorem em_m {m : Str} {tell : Plan → Int → List Int} {p : Plan} {r : Int} {i j : Nat} (hi : σ[i]? = some (some (.ref x))) (hj : σ[j]? = some (some (.int r))) (hm : ∀ w a b, (frF w a b).lookup m = none) (hx : FrameAt K C H x p) (l1 : p.inn.length ≤ 100) (l2 : p.out.length ≤ 100) :
    EvM (tMeth C m (spRow K C tell) [] E0 (tVar i) (tCons (tVar j) tNil)) σ H (PP K none (tupI (tell p r))) := fun H1 e Q q => ⟨_, hi, by
  have hx1 := hx.grow e
  obtain ⟨dx, vi, vo, h1, _⟩ := id hx1
  exact ⟨x, dx, _, rfl, h1, hm _ _ _, _, hj, x, p, r, rfl, hx1, l1, l2, fun v H2 e2 pv => q v H2 e2 pv⟩⟩
theorem em_mk1 {m : Str} {tell : Plan → Int → List Int} {p : Plan} {r : Int} {i j : Nat} {gV : List V → List V → List V} (hg : ∀ a b, gV [a] [b] = [a, b]) (hi : σ[i]? = some (some (.ref x))) (hj : σ[j]? = some (some (.int r))) (hm : ∀ w a b, (frF w a b).lookup m = none) (hx : FrameAt K C H x p) (l1 : p.inn.length ≤ 100) (l2 : p.out.length ≤ 100) :
    EvM (tMethK C m 1 (spRow K C tell) gV E0 (tVar i) (tCons (tVar j) tNil)) σ H (PP K none (tupI (tell p r))) := fun H1 e Q q => ⟨_, hi, by
  have hx1 := hx.grow e
  obtain ⟨dx, vi, vo, h1, _⟩ := id hx1
  exact ⟨x, dx, _, rfl, h1, hm _ _ _, _, hj, rfl, x, p, r, hg _ _, hx1, l1, l2, fun v H2 e2 pv => q v H2 e2 pv⟩⟩
theorem em_3 {a b c : PyData} (ha : EvM ta σ H (PP K none a)) (hb : EvM tb σ H (PP K none b)) (hc : EvM tc σ H (PP K none c)) : EvM (t3 ta tb tc) σ H (PP K none (.list [a, b, c])) := em_imp (em_PFl (ds := [a, b, c]) (pps ha (pps hb (pps hc pp0))) (by show 3 ≤ 1000; decide)) fun _ _ _ h => pf_pp h
theorem intTs_ints : ∀ l : List Int, intTs (l.map PyData.int) = true
  | [] => rfl
  | a :: l => by
    rw [List.map_cons, intTs, intTs_ints l]
    rfl
theorem item_tupI (l : List Int) : item (tupI l) = true := by
  have h : ∀ l : List Int, noL.noLs (l.map PyData.int) = true ∧ PyData.canLayAll0 (l.map PyData.int) = true ∧ PyData.depthAll (l.map PyData.int) = 0 := by
    intro l
    induction l with
    | nil => exact ⟨rfl, by simp [PyData.canLayAll0], by simp [PyData.depthAll]⟩
    | cons a l ih =>
      refine ⟨?_, ?_, ?_⟩
      · rw [List.map_cons, noL.noLs, ih.1]; rfl
      · rw [List.map_cons, PyData.canLayAll0, ih.2.1]; simp [PyData.canLay0]
      · rw [List.map_cons, PyData.depthAll, ih.2.2]; simp [PyData.depth]
  unfold item tupI
  rw [noL, PyData.canLay0, PyData.depth, (h l).1, (h l).2.1, (h l).2.2]
  decide
theorem eqv_rows (a b c : List Int) : PyData.eqv (.list [tupI a, tupI b, tupI c]) (.list [tupI a, tupI b, tupI c]) = true := by
  have z : intT (.list [tupI a, tupI b, tupI c]) = true := by
    simp [intT, intTs, tupI, intTs_ints]
  exact (eqv_iff _ _ z z).mpr rfl
theorem shaped_rows (a b c : List Int) : SeqAt.shaped (.list [tupI a, tupI b, tupI c]) = true := shaped_list fun d hd => by
  simp at hd
  rcases hd with rfl | rfl | rfl <;> exact item_tupI _
theorem ok_small {p : Plan} (h : p.Ok) : p.inn.length ≤ 9 ∧ p.out.length ≤ 9 := by
  obtain ⟨w, _, h1, h3, s1, s2⟩ := h
  have a := s1.length_le
  have b := s2.length_le
  have c := (side_sub w).length_le
  rw [gridP_len] at b c
  have d : w * w ≤ 9 := Nat.mul_le_mul h3 h3
  omega
theorem len_on (l : List Pr) (r : Int) : (onL l r).length ≤ l.length := by
  unfold onL
  rw [List.length_map]
  exact List.length_filter_le _ _
theorem len_back (l : List Pr) (r : Int) : (backL l r).length ≤ l.length := by
  unfold backL
  rw [List.length_map]
  exact List.length_filter_le _ _
theorem em_cOn {i : Nat} {l : List Pr} {r : Int} (hl : l.length ≤ 9) (hs : σ.length = 11) (h5 : σ[5]? = some (some (.int r))) (h : EvM (tVar i) σ H (PP K none (.tuple (l.map pairD)))) (ww : ∀ a b, wipe (((wipe σ [9, 10]).set 9 (some a)).set 10 (some b)) [9, 10] = wipe σ [9, 10])
    (s5 : ∀ a b, (((wipe σ [9, 10]).set 9 (some a)).set 10 (some b))[5]? = some (some (.int r))) (s9 : ∀ a b, (((wipe σ [9, 10]).set 9 (some a)).set 10 (some b))[9]? = some (some a)) (s10 : ∀ a b, (((wipe σ [9, 10]).set 9 (some a)).set 10 (some b))[10]? = some (some b)) :
    EvM (cOn K i) σ H (PF K ((onL l r).map PyData.int)) ∧ EvM (cBack K i) σ H (PF K ((backL l r).map PyData.int)) :=
  ⟨em_pairsC (i := 9) (j := 10) (fun p => decide (p.1 = r)) (·.2) (by omega) h ww (fun _ _ => et_ii (s9 _ _) (s5 _ _)) fun _ _ => em_var (s10 _ _) fun _ _ => rfl,
   em_pairsC (i := 9) (j := 10) (fun p => decide (p.2 = r)) (·.1) (by omega) h ww (fun _ _ => et_ii (s10 _ _) (s5 _ _)) fun _ _ => em_var (s9 _ _) fun _ _ => rfl⟩
theorem pure_rows {g1 g2 g3 : List V → List V → List V} (G1 : ∀ a b, g1 [a] [b] = [a, b]) (G2 : ∀ a b, g2 [a] [b] = [a, b]) (G3 : ∀ a b, g3 [a] [b] = [a, b]) (vs : List V) (H : Hp) (Q : VK) (E : XK) (h : spRows K C vs H Q E) :
    t_rows K C g1 g2 g3 { nx := fun _ H' => Q .non H', rt := Q } (start NRows vs) H := by
  obtain ⟨v, x, p, rfl, hok, hv, hx, k⟩ := h
  obtain ⟨s1, s2⟩ := ok_small hok
  obtain ⟨w, hw, h1, h3, si, so⟩ := hok
  unfold t_rows
  refine ⟨v, rfl, ?_⟩
  cases hv with
  | @tup a ys _ hs hys =>
    cases hys with
    | @cons y1 _ ys _ d1 hys =>
      cases hys with
      | @cons y2 _ ys _ d2 hys =>
        cases hys with
        | @cons y3 _ ys _ d3 hys =>
          cases hys
          cases d1
          refine ⟨a, _, rfl, hs, rfl, _, _, rfl, _, _, rfl, _, _, rfl, rfl, ?_⟩
          rw [hw]
          refine ⟨_, rfl, (w : Int), rfl, by omega, by omega, ?_⟩
          rw [Int.toNat_natCast]
          refine for_range (lo := 0) (n := w) (fun i σ H' => ∃ o5 o6 o7 o8, σ = [some (.ref a), some (.ref x), some (.int (w : Int)), some y2, some y3, o5, o6, o7, o8, none, none] ∧ Gr H H') ⟨none, none, none, none, rfl, Gr.refl H⟩ (fun i σ H' hi ⟨o5, o6, o7, o8, es, e⟩ => ?_) fun σ H' ⟨o5, o6, o7, o8, es, e⟩ => ?_
          · subst es
            have hx1 := hx.grow e
            have dd2 := dp_gr e _ _ d2
            have dd3 := dp_gr e _ _ d3
            have z : ((0 : Int) + (i : Int)) = (i : Int) := Int.zero_add _
            rw [z]
            show tSeq _ _ _ [some (.ref a), some (.ref x), some (.int (w : Int)), some y2, some y3, some (.int (i : Int)), o6, o7, o8, none, none] H'
            have cc := em_cOn (K := K) (σ := [some (.ref a), some (.ref x), some (.int (w : Int)), some y2, some y3, some (.int (i : Int)), o6, o7, o8, none, none]) (H := H') (i := 3) (l := p.inn) (r := (i : Int)) s1 rfl rfl (em_vP grows_PP rfl dd2) (fun _ _ => rfl) (fun _ _ => rfl) (fun _ _ => rfl) (fun _ _ => rfl)
            have ct := em_cat cc.1 cc.2 (by rw [List.length_map, List.length_map]; have := len_on p.inn i; have := len_back p.inn i; omega)
            rw [← List.map_append] at ct
            have bes := em_sortI (l := onL p.inn i ++ backL p.inn i) (a := besideL p.inn i) (by rw [List.length_append]; have := len_on p.inn i; have := len_back p.inn i; omega) (rows_up up_bes h1 h3 si hi) List.perm_append_comm ct
            refine q_asg (P := PF K ((besideL p.inn i).map PyData.int)) bes fun v6 H1 e1 p1 => ?_
            have hx2 := hx1.grow e1
            refine q_asg (P := PP K none (.list [tupI (besideL p.inn i), tupI (onL p.out i), tupI (backL p.out i)])) (em_3 (em_m rfl rfl (fun _ _ _ => rfl) hx2 (by omega) (by omega)) (em_m rfl rfl (fun _ _ _ => rfl) hx2 (by omega) (by omega)) (em_m rfl rfl (fun _ _ _ => rfl) hx2 (by omega) (by omega))) fun v7 H2 e2 p2 => ?_
            have e12 := e1.trans e2
            have cd := em_cOn (K := K) (σ := [some (.ref a), some (.ref x), some (.int (w : Int)), some y2, some y3, some (.int (i : Int)), some v6, some v7, o8, none, none]) (H := H2) (i := 4) (l := p.out) (r := (i : Int)) s2 rfl rfl (em_vP grows_PP rfl (dp_gr e12 _ _ dd3)) (fun _ _ => rfl) (fun _ _ => rfl) (fun _ _ => rfl) (fun _ _ => rfl)
            refine q_asg (P := PP K none (.list [tupI (besideL p.inn i), tupI (onL p.out i), tupI (backL p.out i)])) (em_3 (em_tupOf On.none (em_vP grows_PP rfl (grows_PP _ _ _ e2 (pf_pp p1)))) (em_tupOf On.none (em_imp (em_sortI (by have := len_on p.out i; omega) (rows_up up_on h1 h3 so hi) (.refl _) cd.1) fun _ _ _ h => pf_pp h)) (em_tupOf On.none (em_imp (em_sortI (by have := len_back p.out i; omega) (rows_up up_back h1 h3 so hi) (.refl _) cd.2) fun _ _ _ h => pf_pp h))) fun v8 H3 e3 p3 => ?_
            have hx4 := (hx2.grow e2).grow e3
            have q7 := grows_PP _ _ _ e3 p2
            have sh := shaped_rows (besideL p.inn i) (onL p.out i) (backL p.out i)
            have n1 := em_neD (σ := [some (.ref a), some (.ref x), some (.int (w : Int)), some y2, some y3, some (.int (i : Int)), some v6, some v7, some v8, none, none]) (H := H3) (em_vP (i := 7) grows_PP rfl q7) (em_vP (i := 8) grows_PP rfl p3) sh sh
            have n2 := em_neD (σ := [some (.ref a), some (.ref x), some (.int (w : Int)), some y2, some y3, some (.int (i : Int)), some v6, some v7, some v8, none, none]) (H := H3) (em_3 (em_mk1 (m := "beside") (tell := fun p r => besideL p.inn r) (i := 1) (j := 5) G1 rfl rfl (fun _ _ _ => rfl) hx4 (by omega) (by omega)) (em_mk1 (m := "onward") (tell := fun p r => onL p.out r) (i := 1) (j := 5) G2 rfl rfl (fun _ _ _ => rfl) hx4 (by omega) (by omega)) (em_mk1 (m := "back") (tell := fun p r => backL p.out r) (i := 1) (j := 5) G3 rfl rfl (fun _ _ _ => rfl) hx4 (by omega) (by omega))) (em_vP (i := 8) grows_PP rfl p3) sh sh
            rw [eqv_rows] at n1 n2
            refine s_no (et_or (et_test n1) fun _ => et_test n2) fun H4 e4 => ⟨_, _, _, _, rfl, ((e.trans e12).trans e3).trans e4⟩
          · subst es
            show tRet (tC (.bl true)) { nx := fun _ H' => Q .non H', rt := Q } [some (.ref a), some (.ref x), some (.int (w : Int)), some y2, some y3, o5, o6, o7, o8, none, none] H'
            refine q_ret (P := fun u _ => u = .bl true) (em_c fun _ _ => rfl) fun u H2 e2 eu => ?_
            subst eu
            exact k H2 (e.trans e2)
end
end G

set_option maxHeartbeats 400000
/-! The law of frames told: a turn. -/
namespace G
open PySem PySem.Spec PyProof.Rows L2 Tp
section
variable {K : PySem.W.Frag} {σ : L2.St} {H : Hp} {D : Vw} {C x t : Addr} {te ta tb tc tl : TE}
abbrev tDr (K : PySem.W.Frag) : TE := tCall (spDrawn K) [] E0 (tCons (tVar 2) (tCons (c 3) tNil))
abbrev tSh (K : PySem.W.Frag) (te : TE) : TE := tCall (spShuf K) [] E0 (tCons (tVar 2) (tCons te tNil))
def PPlan (K : PySem.W.Frag) : VP := fun v H => ∃ p : Plan, p.Ok ∧ Dp K H v (planD p)
theorem grows_PPlan : Grows (PPlan K) := fun _ _ _ e ⟨p, h1, h2⟩ => ⟨p, h1, dp_gr e _ _ h2⟩
theorem em_dr (h2 : σ[2]? = some (some (.ref t))) (hT : Tape H t) : EvM (tDr K) σ H (PPlan K) := fun H1 e Q q => ⟨_, h2, t, 3, rfl, e.tape_at hT, by decide, by decide, fun v p H2 e2 ok _ hv => q v H2 e2 ⟨p, ok, hv⟩⟩
theorem perm_back {es : List PyData} {l : List Pr} (pm : es.Perm (l.map pairD)) : ∃ l' : List Pr, es = l'.map pairD ∧ l'.Perm l := by
  refine ⟨es.map toPr, ?_, ?_⟩
  · rw [List.map_map]
    have h : ∀ e ∈ es, (pairD ∘ toPr) e = e := fun e he => by
      obtain ⟨p, _, rfl⟩ := List.mem_map.mp (pm.mem_iff.mp he)
      rfl
    exact (List.map_congr_left h).trans (List.map_id _) |>.symm
  · have z := pm.map toPr
    rw [toPr_pairs] at z
    exact z
/-- _law_shuffled(tape, pairs) -/
theorem em_sh {l : List Pr} (h2 : σ[2]? = some (some (.ref t))) (hT : Tape H t) (hl : l.length ≤ 1000) (h : EvM te σ H (PP K none (.tuple (l.map pairD)))) :
    EvM (tSh K te) σ H (fun v H' => ∃ (p : Addr) (xs : List V) (l' : List Pr), v = .ref p ∧ H p = none ∧ H' p = some (.lst xs) ∧ DpAll K (delH H' p) xs (l'.map pairD) ∧ l'.Perm l) := fun H1 e Q q => ⟨_, h2, h H1 e _ fun v H2 e2 pv =>
  ⟨t, v, l.map pairD, rfl, (e.trans e2).tape_at hT, .inl pv, by rw [List.length_map]; exact hl, items_pairs l, fun p xs es H3 hp e3 at_ hx pm => by
    obtain ⟨l', rfl, pm'⟩ := perm_back pm
    exact q _ H3 (e2.trans e3) ⟨p, xs, l', rfl, (e.trans e2).back hp, at_, hx, pm'⟩⟩⟩
theorem em_p (i : Nat) {p : Plan} {v : V} (hi : σ[i]? = some (some v)) (h : Dp K H v (planD p)) : EvM (tVar i) σ H (PP K none (planD p)) := em_vP grows_PP hi h
theorem em_p0 {i : Nat} {p : Plan} {v : V} (hi : σ[i]? = some (some v)) (h : Dp K H v (planD p)) : EvM (tAtC K i 0) σ H (fun u _ => u = .int p.w) := em_int (em_ixT (D := none) (i := 0) (em_p i hi h) (em_c fun _ _ => rfl) rfl)
theorem em_p1 {i : Nat} {p : Plan} {v : V} (hi : σ[i]? = some (some v)) (h : Dp K H v (planD p)) : EvM (tAtC K i 1) σ H (PP K none (.tuple (p.inn.map pairD))) := em_ixT (D := none) (i := 1) (em_p i hi h) (em_c fun _ _ => rfl) rfl
theorem em_p2 {i : Nat} {p : Plan} {v : V} (hi : σ[i]? = some (some v)) (h : Dp K H v (planD p)) : EvM (tAtC K i 2) σ H (PP K none (.tuple (p.out.map pairD))) := em_ixT (D := none) (i := 2) (em_p i hi h) (em_c fun _ _ => rfl) rfl
theorem hands_pp {v : V} {l : List Pr} (h : PP K none (.tuple (l.map pairD)) v H) : Hands K H v l := ⟨l, .refl _, .inl h⟩
/-- two keywords, the inner pairs first -/
theorem tkw2 {gV : List V → List V → List V} (hg : ∀ x w b c, gV [x, w] [b, c] = [x, w, b, c]) {p : Plan} (hb : EvM tb σ H (fun v H' => Hands K H' v p.inn)) (hc : EvM tc σ H (fun v H' => Hands K H' v p.out)) :
    ∀ H1, Gr H H1 → ∀ Q : List V → Hp → Prop, (∀ zs H2 vi vo, Gr H1 H2 → zs.length = 2 → (∀ x, gV [x, .int p.w] zs = [x, .int p.w, vi, vo]) → Hands K H2 vi p.inn → Hands K H2 vo p.out → Q zs H2) → (tCons tb (tCons tc tNil)) σ H1 Q := fun H1 e Q q =>
  hb H1 e _ fun v H2 e2 hv => hc H2 (e.trans e2) _ fun u H3 e3 hu => q [v, u] H3 v u (e2.trans e3) rfl (fun x => hg _ _ _ _) (hv.grow e3) hu
theorem tkw2' {gV : List V → List V → List V} (hg : ∀ x w b c, gV [x, w] [b, c] = [x, w, c, b]) {p : Plan} (hb : EvM tb σ H (fun v H' => Hands K H' v p.out)) (hc : EvM tc σ H (fun v H' => Hands K H' v p.inn)) :
    ∀ H1, Gr H H1 → ∀ Q : List V → Hp → Prop, (∀ zs H2 vi vo, Gr H1 H2 → zs.length = 2 → (∀ x, gV [x, .int p.w] zs = [x, .int p.w, vi, vo]) → Hands K H2 vi p.inn → Hands K H2 vo p.out → Q zs H2) → (tCons tb (tCons tc tNil)) σ H1 Q := fun H1 e Q q =>
  hb H1 e _ fun v H2 e2 hv => hc H2 (e.trans e2) _ fun u H3 e3 hu => q [v, u] H3 u v (e2.trans e3) rfl (fun x => hg _ _ _ _) hu (hv.grow e3)
abbrev NMade : List Str := ["plan"]
abbrev tMkF (K : PySem.W.Frag) (C : Addr) (gV : List V → List V → List V) (a b c : TE) : TE := tMakeK C 1 2 (spFrame K C) gV E0 (tCons a tNil) (tCons b (tCons c tNil))
def t_made (K : PySem.W.Frag) (C : Addr) (gV : List V → List V → List V) : TS := tRet (tMkF K C gV (tAtC K 0 0) (tAtC K 0 1) (tAtC K 0 2))
def spMade (K : PySem.W.Frag) (C : Addr) : Sp := fun vs H Q _ => ∃ (v : V) (p : Plan), vs = [v] ∧ p.Ok ∧ Dp K H v (planD p) ∧ ∀ x H', Gr H H' → H x = none → FrameAt K C H' x p → Q (.ref x) H'
theorem pure_made {gV : List V → List V → List V} (hg : ∀ x w b c, gV [x, w] [b, c] = [x, w, b, c]) (vs : List V) (H : Hp) (Q : VK) (E : XK) (h : spMade K C vs H Q E) : t_made K C gV { nx := fun _ H' => Q .non H', rt := Q } (start NMade vs) H := by
  obtain ⟨v, p, rfl, ok, hv, k⟩ := h
  unfold t_made
  refine q_ret (em_mk ok (em_p0 rfl hv) (fun _ => trivial) (tkw2 hg (em_imp (em_p1 rfl hv) fun _ _ _ h => hands_pp h) (em_imp (em_p2 rfl hv) fun _ _ _ h => hands_pp h))) fun u H1 e ⟨x, eu, hx, fr⟩ => ?_
  subst eu
  exact k x H1 e hx fr
/-! values beside a frame -/
def Data (K : PySem.W.Frag) (H : Hp) (v : V) : Prop := ∃ d, Stay K H v d
theorem Data.grow {v : V} {H' : Hp} (h : Data K H v) (e : Gr H H') : Data K H' v := h.imp fun _ h => h.grow e
theorem data_pp {d : PyData} {v : V} (h : PP K none d v H) : Data K H v := ⟨d, stay_dp h⟩
abbrev tEqFr (K : PySem.W.Frag) (C : Addr) (a b : TE) : TE := tOp (rEqF K C (spFEq K C)) a b
theorem dpAll_rep : ∀ {n : Nat} {b : Bool} {xs : List V}, DpAll K H xs (List.replicate n (PyData.bool b)) → xs = List.replicate n (.bl b)
  | 0, _, _, h => by cases h; rfl
  | n + 1, b, _, h => by
    rw [List.replicate_succ] at h
    cases h with
    | cons h1 h2 =>
      cases h1
      rw [dpAll_rep h2, List.replicate_succ]
/-- [frame == thing for thing in (..)] -/
theorem em_things {p : Plan} {i j : Nat} (FI : FrIs K C) (h : EvM tl σ H (fun v H' => ∃ q xs, v = .ref q ∧ H' q = some (.tup xs) ∧ xs.length ≤ 9 ∧ ∀ y ∈ xs, Data K H' y)) (hx : FrameAt K C H x p) (wp : ∀ a, wipe ((wipe σ [j]).set j (some a)) [j] = wipe σ [j])
    (hi : ∀ a, ((wipe σ [j]).set j (some a))[i]? = some (some (.ref x))) (hj : ∀ a, ((wipe σ [j]).set j (some a))[j]? = some (some a)) :
    EvM (tLc (iTup K tl) (gName j) tYes (tEqFr K C (tVar i) (tVar j)) [j]) σ H (fun v H' => ∃ n, PF K (List.replicate n (.bool false)) v H') := fun H1 e Q q =>
  h H1 e _ fun v H2 e2 ⟨r, xs, ev, hr, hlen, hd⟩ => ⟨r, ev, ⟨xs, SqT.of hr⟩, fun Dl hD => by
    refine lc_tup (K := K) (a := r) (xs := xs) (Run K Dl H2 fun i ds => ds = List.replicate i (.bool false)) (run_start hD rfl) (fun i H' _ R => ?_) (fun n y H' hn R => ?_) fun H' R => ?_
    · obtain ⟨_, _, _, _, _, _, e3⟩ := R
      exact SqT.of ((e3.trans gr_del).tup hr)
    · have e3 : Gr H2 (delH H' Dl) := by
        obtain ⟨_, _, _, _, _, _, e3⟩ := R
        exact e3
      have e03 := (e.trans e2).trans (e3.trans gr_del)
      have hy := (hd y (List.mem_of_getElem? hn)).grow (e3.trans gr_del)
      have hlt : n < xs.length := (List.getElem?_eq_some_iff.mp hn).1
      refine run_turn (B := fun b d => b = true ∧ d = .bool false) (by omega) R ⟨_, fun Q q => q, wp y, em_yes ⟨(fun z => by cases z), fun _ => ⟨.bool false, ⟨rfl, rfl⟩, ?_⟩⟩⟩ (fun ds _ hb => by cases hb.1) fun ds d' hI hb => ?_
      · refine em_imp (em_eqFr (o := none) FI (em_var (hi y) fun H4 e4 => ⟨x, rfl, hx.grow (e03.trans e4)⟩) (em_var (hj y) fun H4 e4 => hy.grow e4)) fun u _ _ eu => ?_
        subst eu
        exact .bl _
      · rw [hb.2, hI, ← List.replicate_succ']
    · obtain ⟨e3, es, hI, pf⟩ := run_end R
      subst hI
      exact q _ H' (e2.trans e3) ⟨_, pf⟩⟩
theorem et_noTrue (h : EvM te σ H (fun v H' => ∃ n, PF K (List.replicate n (.bool false)) v H')) : EvT (tTest (tOp (rIn K false) (tC (.bl true)) te)) σ H (· = false) := fun H1 e Q q =>
  h H1 e _ fun v H2 e2 ⟨n, p, xs, ev, hp, hx⟩ => by
    obtain rfl := dpAll_rep hx
    have z : inV (.bl true) (List.replicate n (.bl false)) = false := by
      unfold inV
      rw [List.any_eq_false]
      intro y hy
      rw [List.eq_of_mem_replicate hy]
      decide
    refine ⟨p, _, ev, .inl (SqL.of hp), rfl, ?_, ?_⟩
    · rw [List.all_eq_true]
      intro y hy
      rw [List.eq_of_mem_replicate hy]
      rfl
    · exact ⟨_, rfl, by rw [z]; exact q false H2 e2 rfl⟩
end
end G

set_option maxHeartbeats 400000
/-! The law of frames told: what is asked of a frame. -/
namespace G
open PySem PySem.Spec PyProof.Rows L2 Tp
section
variable {K : PySem.W.Frag} {σ : L2.St} {H : Hp} {D : Vw} {C x t : Addr} {te ta tb tc tl : TE}
abbrev tFal : TS := tRet (tC (.bl false))
abbrev tF7 (K : PySem.W.Frag) (i : Nat) (f : Str) : TE := tFld K (tVar i) f
abbrev tRowsC (K : PySem.W.Frag) (C : Addr) (a b : TE) : TE := tCall (spRows K C) [] E0 (tCons a (tCons b tNil))
abbrev tMadeC (K : PySem.W.Frag) (C : Addr) (a : TE) : TE := tCall (spMade K C) [] E0 (tCons a tNil)
abbrev tNeB (a b : TE) : TT := tTest (tOp rNe a b)
abbrev tPlanEq (K : PySem.W.Frag) : TE := tOp (rEqD K) (tVar 4) (tVar 5)
abbrev tEmp : TE := tTup tNil
abbrev t2E : TE := tTup (tCons tEmp (tCons tEmp tNil))
abbrev t2L : TE := tLst (tCons tEmp (tCons tEmp tNil))
def t_ask (K : PySem.W.Frag) (C : Addr) (gB gC : List V → List V → List V) : TS :=
  tSeq (tIfS (tOr (tTest (tOp (rNeD K) (t3 (tF7 K 7 "width") (tF7 K 7 "inner") (tF7 K 7 "outer")) (tCB (rLstOf K) (tCons (tVar 4) tNil)))) (tNot (tB (tRowsC K C (tVar 4) (tVar 7))))) tFal tNext)
  (tSeq (tAsg (tMkF K C gB (tAtC K 4 0) (tTupOf K (tSh K (tAtC K 4 2))) (tAtC K 4 1)) (gName 8))
  (tSeq (tAsg (tMadeC K C (tVar 5)) (gName 9))
  (tSeq (tIfS (tOr (tNot (tTest (tEqFr K C (tVar 7) (tVar 8)))) (tOr (tNeB (tEqFr K C (tVar 7) (tVar 9)) (tPlanEq K)) (tNeB (tEqFr K C (tVar 9) (tVar 7)) (tPlanEq K)))) tFal tNext)
  (tSeq (tIfS (tTest (tOp (rIn K false) (tC (.bl true)) (tLc (iTup K (tTup (tCons (tC .non) (tCons (tVar 4) (tCons (tAtC K 4 0) (tCons tDNewK (tCons (tF7 K 7 "outer") tNil))))))) (gName 11) tYes (tEqFr K C (tVar 7) (tVar 11)) [11]))) tFal tNext)
  (tSeq (tAsg (tMakeK C 1 0 (spFrame K C) gC E0 (tCons (tAtC K 4 0) tNil) tNil) (gName 10))
  (tIfS (tOr (tTest (tOp (rNeD K) (tLst (tCons (tF7 K 10 "inner") (tCons (tF7 K 10 "outer") tNil))) t2L)) (tNeB (tEqFr K C (tVar 10) (tVar 7)) (tOp (rEqD K) (tSl (rSlT K) (tVar 4) (tPart (c 1)) tNoPart) t2E))) tFal tNext))))))
theorem eqv_plan (p q : Plan) : PyData.eqv (planD p) (planD q) = sameP p q := by
  have i1 : ∀ p : Plan, intT (planD p) = true := fun p => by simp [planD, intT, intTs, intTs_pairs]
  rw [Bool.eq_iff_iff, eqv_iff _ _ (i1 p) (i1 q)]
  unfold sameP
  simp only [Bool.and_eq_true, decide_eq_true_eq]
  constructor
  · intro h
    unfold planD at h
    simp only [PyData.tuple.injEq, List.cons.injEq, PyData.int.injEq, and_true] at h
    exact ⟨h.1, map_pairs_inj h.2.1, map_pairs_inj h.2.2⟩
  · rintro ⟨h1, h2, h3⟩
    unfold planD
    rw [h1, h2, h3]
theorem shaped_plan (p : Plan) : SeqAt.shaped (planD p) = true := by
  have z := @item_plan p
  unfold item at z
  simp only [Bool.and_eq_true, decide_eq_true_eq] at z
  unfold SeqAt.shaped
  rw [z.1.2, Bool.true_and]
  apply decide_eq_true
  omega
theorem em_planEq {p1 p2 : Plan} {v4 v5 : V} (h4 : σ[4]? = some (some v4)) (h5 : σ[5]? = some (some v5)) (d4 : Dp K H v4 (planD p1)) (d5 : Dp K H v5 (planD p2)) : EvM (tPlanEq K) σ H (fun v _ => v = .bl (sameP p1 p2)) := by
  have z := em_eqD (em_p 4 h4 d4) (em_p 5 h5 d5) (shaped_plan p1) (shaped_plan p2)
  rw [eqv_plan] at z
  exact z
theorem em_neB {a b : Bool} (ha : EvM ta σ H fun v _ => v = .bl a) (hb : EvM tb σ H fun v _ => v = .bl b) : EvT (tNeB ta tb) σ H (· = (a != b)) := et_test fun H1 e Q q =>
  ha H1 e _ fun v H2 e2 ev => hb H2 (e.trans e2) _ fun u H3 e3 eu => by
    subst ev eu
    refine ⟨by cases a <;> cases b <;> rfl, q _ H3 (e2.trans e3) ?_⟩
    cases a <;> cases b <;> simp
theorem sameP_refl (p : Plan) : sameP p p = true := by simp [sameP]
theorem sameP_comm (p q : Plan) : sameP p q = sameP q p := by
  unfold sameP
  rw [Bool.eq_iff_iff]
  simp only [Bool.and_eq_true, decide_eq_true_eq]
  constructor <;> rintro ⟨h1, h2, h3⟩ <;> exact ⟨h1.symm, h2.symm, h3.symm⟩
theorem em_frV {i : Nat} {p : Plan} (hi : σ[i]? = some (some (.ref x))) (hx : FrameAt K C H x p) : EvM (tVar i) σ H (PFr K C p) := em_vP grows_PFr hi ⟨x, rfl, hx⟩
theorem em_bsV {i : Nat} {p : Plan} (hi : σ[i]? = some (some (.ref x))) (hx : FrameAt K C H x p) : EvM (tVar i) σ H (fun v H' => Beside K C H' v (some p)) := em_var hi fun _ e => ⟨x, rfl, hx.grow e⟩
theorem em_told {p : Plan} {v4 : V} (FC : FrCls K C) (h4 : σ[4]? = some (some v4)) (h7 : σ[7]? = some (some (.ref x))) (d4 : Dp K H v4 (planD p)) (hx : FrameAt K C H x p) :
    EvM (tOp (rNeD K) (t3 (tF7 K 7 "width") (tF7 K 7 "inner") (tF7 K 7 "outer")) (tCB (rLstOf K) (tCons (tVar 4) tNil))) σ H (fun v _ => v = .bl false) := by
  have l3 := em_imp (em_PFl (ds := [.int p.w, .tuple (p.inn.map pairD), .tuple (p.out.map pairD)]) (pps (em_of_int (em_frW FC h7 hx)) (pps (em_frI FC h7 hx) (pps (em_frO FC h7 hx) pp0))) (by show 3 ≤ 1000; decide)) fun _ _ _ h => pf_pp h
  have r3 := em_imp (em_lstOfT (ds := [.int p.w, .tuple (p.inn.map pairD), .tuple (p.out.map pairD)]) (em_p 4 h4 d4)) fun _ _ _ h => pf_pp h
  have it : ∀ d ∈ [PyData.int p.w, .tuple (p.inn.map pairD), .tuple (p.out.map pairD)], item d = true := fun d hd => by
    have q := @item_plan p
    have pr : ∀ l : List Pr, item (.tuple (l.map pairD)) = true := fun l => by
      have h1 := item_lay (items_pairs l)
      have h3 := depth_pairs l
      unfold item
      rw [noL, noL_pairs, PyData.canLay0, h1.1, PyData.depth, Bool.true_and, Bool.true_and]
      apply decide_eq_true
      omega
    simp at hd
    rcases hd with rfl | rfl | rfl
    · rfl
    · exact pr _
    · exact pr _
  have z := em_neD l3 r3 (shaped_list it) (shaped_list it)
  have ii : intT (.list [PyData.int p.w, .tuple (p.inn.map pairD), .tuple (p.out.map pairD)]) = true := by simp [intT, intTs, intTs_pairs]
  rw [(eqv_iff _ _ ii ii).mpr rfl] at z
  exact z
theorem em_rowsC {p : Plan} {v4 : V} (h4 : σ[4]? = some (some v4)) (h7 : σ[7]? = some (some (.ref x))) (ok : p.Ok) (d4 : Dp K H v4 (planD p)) (hx : FrameAt K C H x p) : EvM (tRowsC K C (tVar 4) (tVar 7)) σ H (fun v _ => v = .bl true) := fun H1 e Q q =>
  ⟨_, h4, _, h7, v4, x, p, rfl, ok, dp_gr e _ _ d4, hx.grow e, fun H2 e2 => q _ H2 e2 rfl⟩
end
end G

set_option maxHeartbeats 1000000
namespace G
open PySem PySem.Spec PyProof.Rows L2 Tp
section
variable {K : PySem.W.Frag} {σ : L2.St} {H : Hp} {D : Vw} {C x t : Addr} {te ta tb tc tl : TE}
/-- the empty tuples that stand for pairs left out -/
def Emp (K : PySem.W.Frag) (v : V) : Prop := ∀ H, Dp K H v (.tuple [])
theorem em_emp : EvM tEmp σ H (PP K none (.tuple [])) := em_PPtup On.none pp0 (by decide)
theorem em_emp2 : EvM t2E σ H (PP K none (.tuple [.tuple [], .tuple []])) := em_PPtup On.none (pps em_emp (pps em_emp pp0)) (by show 2 ≤ 1000; decide)
theorem em_list2 {a b : PyData} (ha : EvM ta σ H (PP K none a)) (hb : EvM tb σ H (PP K none b)) : EvM (tLst (tCons ta (tCons tb tNil))) σ H (PP K none (.list [a, b])) := em_imp (em_PFl (ds := [a, b]) (pps ha (pps hb pp0)) (by show 2 ≤ 1000; decide)) fun _ _ _ h => pf_pp h
/-- plan[1:] -/
theorem em_rest {i : Nat} {p : Plan} {v : V} (hi : σ[i]? = some (some v)) (h : Dp K H v (planD p)) : EvM (tSl (rSlT K) (tVar i) (tPart (c 1)) tNoPart) σ H (PP K none (.tuple [.tuple (p.inn.map pairD), .tuple (p.out.map pairD)])) := fun H1 e Q q => ⟨_, hi, 1, rfl, by
  have h1 := dp_gr e _ _ h
  cases h1 with
  | @tup a ys _ hs hys =>
    cases hys with
    | @cons y1 _ ys _ d1 hys =>
      cases hys with
      | @cons y2 _ ys _ d2 hys =>
        cases hys with
        | @cons y3 _ ys _ d3 hys =>
          cases hys
          refine ⟨a, _, rfl, hs, (by show ¬ (HT.sIx 3 0 (some 1) = 0 ∧ HT.sIx 3 3 none = 3); decide), fun r hr => ?_⟩
          have hcut : cutV [y1, y2, y3] (some 1) none = [y2, y3] := rfl
          rw [hcut]
          exact q _ _ (Gr.new hr) (.tup (Evl.st_of upd_same) (.cons (dp_gr (Gr.new hr) _ _ d2) (.cons (dp_gr (Gr.new hr) _ _ d3) .nil)))⟩
def bareP (p : Plan) : Plan := ⟨p.w, [], []⟩
theorem bare_ok {p : Plan} (h : p.Ok) : (bareP p).Ok := by
  obtain ⟨w, h1, h2, h3, _, _⟩ := h
  exact ⟨w, h1, h2, h3, List.nil_sublist _, List.nil_sublist _⟩
theorem same_bare (p : Plan) : sameP (bareP p) p = (decide (p.inn = []) && decide (p.out = [])) := by
  simp [sameP, bareP, eq_comm]
theorem shaped_two (p : Plan) : SeqAt.shaped (.tuple [.tuple (p.inn.map pairD), .tuple (p.out.map pairD)]) = true := shaped_tup fun d hd => by
  have pr : ∀ l : List Pr, item (.tuple (l.map pairD)) = true := fun l => by
    have h1 := item_lay (items_pairs l)
    have h3 := depth_pairs l
    unfold item
    rw [noL, noL_pairs, PyData.canLay0, h1.1, PyData.depth, Bool.true_and, Bool.true_and]
    apply decide_eq_true
    omega
  simp at hd
  rcases hd with rfl | rfl <;> exact pr _
theorem eqv_two (p : Plan) : PyData.eqv (.tuple [.tuple (p.inn.map pairD), .tuple (p.out.map pairD)]) (.tuple [.tuple [], .tuple []]) = sameP (bareP p) p := by
  rw [same_bare, Bool.eq_iff_iff, eqv_iff _ _ (by simp [intT, intTs, intTs_pairs]) (by simp [intT, intTs])]
  simp
theorem pure_ask {gB gC : List V → List V → List V} {e0 e1 : V} (hB : ∀ x w b c, gB [x, w] [b, c] = [x, w, c, b]) (hC : ∀ x w, gC [x, w] [] = [x, w, e0, e1]) (E0' : Emp K e0) (E1' : Emp K e1) (FC : FrCls K C) (FI : FrIs K C) {E : Ends} {v0 v1 v3 v6 v8 v9 v10 v11 : Option V} {v4 v5 : V} {p1 p2 : Plan}
    (ok1 : p1.Ok) (ok2 : p2.Ok) (hT : Tape H t) (d4 : Dp K H v4 (planD p1)) (d5 : Dp K H v5 (planD p2)) (hx : FrameAt K C H x p1)
    (k : ∀ H' y8 y9 y10, Gr H H' → E.nx [v0, v1, some (.ref t), v3, some v4, some v5, v6, some (.ref x), y8, y9, y10, v11] H') :
    t_ask K C gB gC E [v0, v1, some (.ref t), v3, some v4, some v5, v6, some (.ref x), v8, v9, v10, v11] H := by
  obtain ⟨s1, s2⟩ := ok_small ok1
  unfold t_ask
  have a1 := et_or (et_test (em_told (K := K) (C := C) (H := H) (σ := [v0, v1, some (.ref t), v3, some v4, some v5, v6, some (.ref x), v8, v9, v10, v11]) FC rfl rfl d4 hx)) fun _ => et_not (et_B (em_rowsC (K := K) (C := C) (H := H) (σ := [v0, v1, some (.ref t), v3, some v4, some v5, v6, some (.ref x), v8, v9, v10, v11]) rfl rfl ok1 d4 hx))
  refine q_no a1 fun H1 g1 => ?_
  have d4' := dp_gr g1 _ _ d4
  refine q_asg (em_mk ok1 (em_p0 rfl d4') (fun _ => trivial) (tkw2' hB (em_imp (em_tupOfX (I := fun es => ∃ l' : List Pr, es = l'.map pairD ∧ l'.Perm p1.out) (em_imp (em_sh (l := p1.out) rfl (g1.tape_at hT) (by omega) (em_p2 rfl d4')) fun v H' _ ⟨q, xs, l', ev, _, at_, hx', pm⟩ => ⟨l'.map pairD, ⟨l', rfl, pm⟩, q, xs, ev, at_, hx'⟩)) fun v H' _ ⟨es, ⟨l', he, pm⟩, pp⟩ => ⟨l', pm, .inl (by rw [← he]; exact pp)⟩) (em_imp (em_p1 rfl d4') fun _ _ _ h => hands_pp h))) fun v8' H2 g2 ⟨y, ey, _, hy⟩ => ?_
  subst ey
  have g02 := g1.trans g2
  refine q_asg (P := fun v H' => ∃ z, v = .ref z ∧ FrameAt K C H' z p2) (fun H3 e Q q => ⟨_, rfl, v5, p2, rfl, ok2, dp_gr (g02.trans e) _ _ d5, fun z H4 e4 _ fr => q _ H4 e4 ⟨z, rfl, fr⟩⟩) fun v9' H3 g3 ⟨z, ez, hz⟩ => ?_
  subst ez
  have g03 := g02.trans g3
  have f7 := hx.grow g03
  have f8 := hy.grow g3
  have pe : EvM (tPlanEq K) [v0, v1, some (.ref t), v3, some v4, some v5, v6, some (.ref x), some (.ref y), some (.ref z), v10, v11] H3 (fun v _ => v = .bl (sameP p1 p2)) := em_planEq rfl rfl (dp_gr g03 _ _ d4) (dp_gr g03 _ _ d5)
  have q1 := et_or (et_not (et_test (em_eqFr (o := some p1) (σ := [v0, v1, some (.ref t), v3, some v4, some v5, v6, some (.ref x), some (.ref y), some (.ref z), v10, v11]) (H := H3) FI (em_frV (i := 7) rfl f7) (em_bsV (i := 8) rfl f8)))) fun _ =>
    et_or (em_neB (em_eqFr (o := some p2) FI (em_frV (i := 7) rfl f7) (em_bsV (i := 9) rfl hz)) pe) fun _ => em_neB (em_eqFr (o := some p1) FI (em_frV (i := 9) rfl hz) (em_bsV (i := 7) rfl f7)) pe
  have z1 : (!sameO p1 (some p1) || ((sameO p1 (some p2) != sameP p1 p2) || (sameO p2 (some p1) != sameP p1 p2))) = false := by
    show (!sameP p1 p1 || ((sameP p1 p2 != sameP p1 p2) || (sameP p2 p1 != sameP p1 p2))) = false
    rw [sameP_refl, sameP_comm p2 p1]
    simp
  rw [z1] at q1
  refine q_no q1 fun H4 g4 => ?_
  have g04 := g03.trans g4
  have f7' := f7.grow g4
  have d44 := dp_gr g04 _ _ d4
  have th := em_things (K := K) (C := C) (x := x) (H := H4) (σ := [v0, v1, some (.ref t), v3, some v4, some v5, v6, some (.ref x), some (.ref y), some (.ref z), v10, v11]) (i := 7) (j := 11) (p := p1) (tl := tTup (tCons (tC .non) (tCons (tVar 4) (tCons (tAtC K 4 0) (tCons tDNewK (tCons (tF7 K 7 "outer") tNil)))))) FI
    (em_tup (Ps := [fun v H' => Data K H' v, fun v H' => Data K H' v, fun v H' => Data K H' v, fun v H' => Data K H' v, fun v H' => Data K H' v]) ?_ ?_ (by show 5 ≤ 1000; decide) fun r vs H' e al hr _ => ?_) f7' (fun _ => rfl) (fun _ => rfl) (fun _ => rfl)
  · refine q_no (et_noTrue th) fun H5 g5 => ?_
    have g05 := g04.trans g5
    have f75 := f7'.grow g5
    have d45 := dp_gr g05 _ _ d4
    refine q_asg (em_mk (p := bareP p1) (m := 0) (bare_ok ok1) (em_imp (em_p0 (p := p1) rfl d45) fun _ _ _ h => h) (fun _ => trivial) fun H6 e Q q => q [] H6 e0 e1 (Gr.refl H6) rfl (fun x => hC _ _) ⟨[], .refl _, .inl (E0' _)⟩ ⟨[], .refl _, .inl (E1' _)⟩) fun v10' H6 g6 ⟨u, eu, _, hu⟩ => ?_
    subst eu
    have f76 := f75.grow g6
    have d46 := dp_gr g6 _ _ d45
    have b1 := em_neD (σ := [v0, v1, some (.ref t), v3, some v4, some v5, v6, some (.ref x), some (.ref y), some (.ref z), some (.ref u), v11]) (H := H6) (em_list2 (em_frI FC (i := 10) rfl hu) (em_frO FC (i := 10) rfl hu)) (em_list2 (K := K) em_emp em_emp) (by show SeqAt.shaped (.list [.tuple [], .tuple []]) = true; decide) (by decide)
    have b2 := em_eqD (σ := [v0, v1, some (.ref t), v3, some v4, some v5, v6, some (.ref x), some (.ref y), some (.ref z), some (.ref u), v11]) (H := H6) (em_rest (i := 4) rfl d46) em_emp2 (shaped_two p1) (by decide)
    rw [eqv_two] at b2
    have b3 := et_or (et_test b1) fun _ => em_neB (em_eqFr (o := some p1) FI (em_frV (i := 10) rfl hu) (em_bsV (i := 7) rfl f76)) b2
    have z2 : ((!PyData.eqv (.list [.tuple ((bareP p1).inn.map pairD), .tuple ((bareP p1).out.map pairD)]) (.list [.tuple [], .tuple []])) || (sameO (bareP p1) (some p1) != sameP (bareP p1) p1)) = false := by
      have y1 : PyData.eqv (.list [.tuple ((bareP p1).inn.map pairD), .tuple ((bareP p1).out.map pairD)]) (.list [.tuple [], .tuple []]) = true := by
        show PyData.eqv (.list [.tuple [], .tuple []]) (.list [.tuple [], .tuple []]) = true
        decide
      rw [y1]
      simp [sameO]
    rw [z2] at b3
    exact s_no b3 fun H7 g7 => k H7 _ _ _ ((g05.trans g6).trans g7)
  · exact .cons (fun _ _ _ e h => h.grow e) (.cons (fun _ _ _ e h => h.grow e) (.cons (fun _ _ _ e h => h.grow e) (.cons (fun _ _ _ e h => h.grow e) (.cons (fun _ _ _ e h => h.grow e) .nil))))
  · have gd : Grows (fun v H' => Data K H' v) := fun _ _ _ e h => h.grow e
    refine ems_cons gd (em_c fun H' _ => data_pp (d := .none) .non) (ems_cons gd (em_var rfl fun H' e => data_pp (dp_gr e _ _ d44)) (ems_cons gd (em_imp (em_p0 rfl d44) fun v H' _ ev => by subst ev; exact data_pp (.int _)) (ems_cons gd (fun H1 e Q q r hr => q _ _ (Gr.new hr) ⟨_, stay_dk (kvs := []) upd_same fun ⟨_, _, z, _⟩ => by cases z⟩) (ems_cons gd (em_imp (em_frO FC rfl f7') fun v H' _ h => data_pp h) ems_nil))))
  · have al2 : ∀ {Ps : List VP} {vs : List V}, AllP H' Ps vs → (∀ P ∈ Ps, P = fun v H' => Data K H' v) → ∀ y ∈ vs, Data K H' y := by
      intro Ps vs al
      induction al with
      | nil => exact fun _ y hy => nomatch hy
      | cons h1 _ ih =>
        intro hP y hy
        rcases List.mem_cons.mp hy with rfl | hy
        · have z := hP _ List.mem_cons_self
          rw [z] at h1
          exact h1
        · exact ih (fun P hp => hP P (List.mem_cons_of_mem _ hp)) y hy
    exact ⟨r, vs, rfl, hr, by rw [al.len]; show 5 ≤ 9; decide, al2 al fun P hP => by simpa using hP⟩
end
end G

set_option maxHeartbeats 1000000
/-! The law of frames told. -/
namespace G
open PySem PySem.Spec PyProof.Rows L2 Tp
abbrev rMax2 : List V → Hp → VK → Prop := fun xs H Q => ∃ i j, xs = [V.int i, V.int j] ∧ Q (V.int (if j > i then j else i)) H
abbrev rMin2 : List V → Hp → VK → Prop := fun xs H Q => ∃ i j, xs = [V.int i, V.int j] ∧ Q (V.int (if j < i then j else i)) H
abbrev NLaw3 : List Str := ["script", "start", "tape", "turn", "plan", "beside", "given", "frame", "twin", "latter", "bare", "thing"]
section
variable {K : PySem.W.Frag} {σ : L2.St} {H : Hp} {D : Ends} {C x t : Addr}
abbrev tGiv (K : PySem.W.Frag) (i : Int) : TE := tOp (rIxL K) (tVar 6) (c i)
def t_turn3 (K : PySem.W.Frag) (C : Addr) (gA gB gC : List V → List V → List V) : TS :=
  tSeq (tPar 4 5 (tCons (tDr K) (tCons (tDr K) tNil)))
  (tSeq (tAsg (tLst (tCons (tSh K (tAtC K 4 1)) (tCons (tSh K (tAtC K 4 2)) tNil))) (gName 6))
  (tSeq (tAsg (tMkF K C gA (tAtC K 4 0) (tGiv K 0) (tGiv K 1)) (gName 7))
  (tSeq (tDrop (tBM0 K "list" rClear (tGiv K 0)))
  (tSeq (tDrop (tBM K "list" rAppend (tGiv K 1) (tCons (tTup (tCons (c 0) (tCons (c 0) tNil))) tNil)))
  (t_ask K C gB gC)))))
abbrev t_start3 (K : PySem.W.Frag) (C : Addr) (gA gB gC : List V → List V → List V) : TS :=
  tSeq (tAsg (tCall (spTape K) [] E0 (tCons (tVar 0) (tCons (tVar 1) tNil))) (gName 2)) (tFor (iRng1 (tCons (c 6) tNil)) (gName 3) (t_turn3 K C gA gB gC))
abbrev tCount3 (K : PySem.W.Frag) : TE := tCB rMax2 (tCons (c 1) (tCons (tCB rMin2 (tCons (c 3) (tCons (tCB (Tp.rLen K) (tCons (tVar 0) tNil)) tNil))) tNil))
def t_law3 (K : PySem.W.Frag) (C : Addr) (gA gB gC : List V → List V → List V) : TS :=
  tSeq (tFor (iRng1 (tCons (tCount3 K) tNil)) (gName 1) (t_start3 K C gA gB gC)) (tRet (tC (.bl true)))
def spLaw3 (K : PySem.W.Frag) : Sp := fun vs H Q _ => ∃ (a : Addr) (ns : List Int), vs = [.ref a] ∧ Scr K H a ns ∧ ∀ H', Q (.bl true) H'
theorem FrameAt.upL {p : Plan} {q : Addr} {xs : List V} {o : HO} (hq : H q = some (.lst xs)) (h : FrameAt K C H x p) : FrameAt K C (upd H q o) x p := by
  obtain ⟨dx, vi, vo, h1, h2, h3⟩ := h
  exact ⟨dx, vi, vo, by rw [upd_ne (ne_of h1 hq (by intro z; cases z))]; exact h1, dp_upL hq _ _ (noL_pairs _) h2, dp_upL hq _ _ (noL_pairs _) h3⟩
theorem em_at {l : Addr} {xs : List V} {v : V} {i j : Nat} (hi : σ[i]? = some (some (.ref l))) (hl : H l = some (.lst xs)) (hj : xs[j]? = some v) : EvM (tOp (rIxL K) (tVar i) (c (j : Int))) σ H (fun u _ => u = v) := fun H1 e Q q =>
  ⟨_, hi, l, xs, (j : Int), v, rfl, rfl, SqL.of (e.lst hl), atI_nat hj, q _ H1 (Gr.refl H1) rfl⟩
theorem turn_step3 {gA gB gC : List V → List V → List V} {e0 e1 : V} (hA : ∀ x w b c, gA [x, w] [b, c] = [x, w, b, c]) (hB : ∀ x w b c, gB [x, w] [b, c] = [x, w, c, b]) (hC : ∀ x w, gC [x, w] [] = [x, w, e0, e1]) (E0' : Emp K e0) (E1' : Emp K e1) (FC : FrCls K C) (FI : FrIs K C)
    {v0 v1 v3 v4 v5 v6 v7 v8 v9 v10 v11 : Option V} (hT : Tape H t) (k : ∀ H' y4 y5 y6 y7 y8 y9 y10, Gr H H' → D.nx [v0, v1, some (.ref t), v3, y4, y5, y6, y7, y8, y9, y10, v11] H') :
    t_turn3 K C gA gB gC D [v0, v1, some (.ref t), v3, v4, v5, v6, v7, v8, v9, v10, v11] H := by
  unfold t_turn3
  refine q_par (Ps := [PPlan K, PPlan K]) (ems_cons grows_PPlan (em_dr rfl hT) (ems_cons grows_PPlan (em_dr rfl hT) ems_nil)) fun vs H1 e1' al => ?_
  cases al with
  | @cons _ _ w4 _ h4 al =>
    cases al with
    | @cons _ _ w5 _ h5 al =>
      cases al
      obtain ⟨p1, ok1, d4⟩ := h4
      obtain ⟨p2, ok2, d5⟩ := h5
      obtain ⟨s1, s2⟩ := ok_small ok1
      refine ⟨_, _, rfl, ?_⟩
      have hT1 := e1'.tape_at hT
      refine em_sh (K := K) (t := t) (l := p1.inn) (H := H1) rfl hT1 (by omega) (em_p1 rfl d4) H1 (Gr.refl H1) _ fun vA H2 e2 ⟨pA, xA, lA, evA, nA, atA, hxA, pmA⟩ => ?_
      have d42 := dp_gr e2 _ _ d4
      refine em_sh (K := K) (t := t) (l := p1.out) (H := H2) rfl (e2.tape_at hT1) (by omega) (em_p2 rfl d42) H2 (Gr.refl H2) _ fun vB H3 e3 ⟨pB, xB, lB, evB, nB, atB, hxB, pmB⟩ => ⟨by show 2 ≤ sizeLine; decide, fun l hl => ?_⟩
      subst evA evB
      have e4 := Gr.new (o := .lst [V.ref pA, V.ref pB]) hl
      have l4 : (upd H3 l (.lst [V.ref pA, V.ref pB])) l = some (.lst [V.ref pA, V.ref pB]) := upd_same
      have gA4 := ((gr_del (H := H2) (D := pA)).trans e3).trans e4
      have hdA : Hands K (upd H3 l (.lst [V.ref pA, V.ref pB])) (.ref pA) p1.inn := ⟨lA, pmA, .inr (.lst (SqL.of (e4.lst (e3.lst atA))) (dpAll_gr gA4 _ _ hxA))⟩
      have hdB : Hands K (upd H3 l (.lst [V.ref pA, V.ref pB])) (.ref pB) p1.out := ⟨lB, pmB, .inr (.lst (SqL.of (e4.lst atB)) (dpAll_gr (gr_del.trans e4) _ _ hxB))⟩
      have g14 := (e2.trans e3).trans e4
      refine q_asg (em_mk ok1 (em_p0 rfl (dp_gr g14 _ _ d4)) (fun _ => trivial) (tkw2 hA (fun H' e Q q => em_at (j := 0) rfl l4 rfl H' e Q fun v H'' e' ev => q v H'' e' (by subst ev; exact hdA.grow (e.trans e'))) (fun H' e Q q => em_at (j := 1) rfl l4 rfl H' e Q fun v H'' e' ev => q v H'' e' (by subst ev; exact hdB.grow (e.trans e'))))) fun v7' H5 e5 ⟨y, ey, _, fy⟩ => ?_
      subst ey
      have l5 := e5.lst l4
      have a5 := e5.lst (e4.lst (e3.lst atA))
      have b5 := e5.lst (e4.lst atB)
      have g15 := g14.trans e5
      have neAB : pA ≠ pB := fun z => by
        rw [z, nB] at atA
        cases atA
      refine ⟨_, rfl, l, _, (0 : Int), V.ref pA, rfl, rfl, SqL.of l5, atI_nat (j := 0) rfl, .inl ⟨rfl, _, SqL.of a5⟩, pA, xA, rfl, rfl, a5, ?_⟩
      have g16 : Gr H1 (upd H5 pA (.lst [])) := g15.write nA
      have neLA : l ≠ pA := fun z => by
        have q1 := e3.lst atA
        rw [← z, hl] at q1
        cases q1
      have neLB : l ≠ pB := fun z => by
        rw [← z, hl] at atB
        cases atB
      have l6 : (upd H5 pA (.lst [])) l = some (.lst [V.ref pA, V.ref pB]) := by rw [upd_ne neLA]; exact l5
      have b6 : (upd H5 pA (.lst [])) pB = some (.lst xB) := by rw [upd_ne neAB.symm]; exact b5
      have f6 := fy.upL (o := .lst []) a5
      refine ⟨_, rfl, l, _, (1 : Int), V.ref pB, rfl, rfl, SqL.of l6, atI_nat (j := 1) rfl, .inl ⟨rfl, _, SqL.of b6⟩, (by decide : 2 ≤ sizeLine), fun r hr => ⟨pB, xB, _, rfl, rfl, ?_, ?_, ?_⟩⟩
      · rw [upd_ne (fun z => by rw [z, hr] at b6; cases b6)]
        exact b6
      · rw [dpAll_len hxB, List.length_map, pmB.length_eq]
        exact Nat.lt_of_le_of_lt (show p1.out.length ≤ 9 by omega) (by decide)
      · have b7 : (upd (upd H5 pA (.lst [])) r (.tup [.int 0, .int 0])) pB = some (.lst xB) := by
          rw [upd_ne (fun z => by rw [z, hr] at b6; cases b6)]
          exact b6
        have g18 : Gr H1 (upd (upd (upd H5 pA (.lst [])) r (.tup [.int 0, .int 0])) pB (.lst (xB ++ [.ref r]))) := (g16.trans (Gr.new hr)).write (e2.back nB)
        have f8 := (f6.grow (Gr.new (o := .tup [.int 0, .int 0]) hr)).upL (o := .lst (xB ++ [.ref r])) b7
        exact pure_ask hB hC E0' E1' FC FI ok1 ok2 (g18.tape_at hT1) (dp_gr g18 _ _ d4) (dp_gr g18 _ _ d5) f8 fun H' y8 y9 y10 g => k H' _ _ _ _ y8 y9 y10 ((e1'.trans g18).trans g)
theorem start_step3 {gA gB gC : List V → List V → List V} {e0 e1 : V} (hA : ∀ x w b c, gA [x, w] [b, c] = [x, w, b, c]) (hB : ∀ x w b c, gB [x, w] [b, c] = [x, w, c, b]) (hC : ∀ x w, gC [x, w] [] = [x, w, e0, e1]) (E0' : Emp K e0) (E1' : Emp K e1) (FC : FrCls K C) (FI : FrIs K C)
    {a : Addr} {ns : List Int} {j : Nat} {v2 v3 v4 v5 v6 v7 v8 v9 v10 v11 : Option V} (hS : Scr K H a ns) (hj : j ≤ 5) (k : ∀ H' y2 y3 y4 y5 y6 y7 y8 y9 y10, Gr H H' → D.nx [some (.ref a), some (.int (j : Int)), y2, y3, y4, y5, y6, y7, y8, y9, y10, v11] H') :
    t_start3 K C gA gB gC D [some (.ref a), some (.int (j : Int)), v2, v3, v4, v5, v6, v7, v8, v9, v10, v11] H := by
  refine ⟨_, rfl, _, rfl, a, ns, j, rfl, hS, hj, fun t d m ht hr => ?_⟩
  have n := Gr.new (o := .dK (tapeKv d m)) ht
  refine ⟨6, rfl, by decide, by decide, for_range (lo := 0) (n := 6)
    (fun i σ H' => ∃ y3 y4 y5 y6 y7 y8 y9 y10, σ = [some (.ref a), some (.int (j : Int)), some (.ref t), y3, y4, y5, y6, y7, y8, y9, y10, v11] ∧ Tape H' t ∧ Gr H H')
    ⟨v3, v4, v5, v6, v7, v8, v9, v10, rfl, ⟨d, m, upd_same, hr⟩, n⟩ ?_ ?_⟩
  · rintro i σ H' hi ⟨y3, y4, y5, y6, y7, y8, y9, y10, rfl, hT, g⟩
    exact turn_step3 hA hB hC E0' E1' FC FI hT fun H1 z4 z5 z6 z7 z8 z9 z10 g1 => ⟨_, z4, z5, z6, z7, z8, z9, z10, rfl, g1.tape_at hT, g.trans g1⟩
  · rintro σ H' ⟨y3, y4, y5, y6, y7, y8, y9, y10, rfl, hT, g⟩
    exact k H' _ y3 y4 y5 y6 y7 y8 y9 y10 g
theorem pure_law3 {gA gB gC : List V → List V → List V} {e0 e1 : V} (hA : ∀ x w b c, gA [x, w] [b, c] = [x, w, b, c]) (hB : ∀ x w b c, gB [x, w] [b, c] = [x, w, c, b]) (hC : ∀ x w, gC [x, w] [] = [x, w, e0, e1]) (E0' : Emp K e0) (E1' : Emp K e1) (FC : FrCls K C) (FI : FrIs K C)
    (vs : List V) (H : Hp) (Q : VK) (E : XK) (h : spLaw3 K vs H Q E) : t_law3 K C gA gB gC { nx := fun _ H' => Q .non H', rt := Q } (start NLaw3 vs) H := by
  obtain ⟨a, ns, rfl, hS, k⟩ := h
  unfold t_law3
  refine ⟨_, rfl, a, _, rfl, .inl hS.1, 3, _, rfl, 1, _, rfl, _, rfl, ?_, ?_, for_range (lo := 0)
    (fun i σ H' => ∃ y1 y2 y3 y4 y5 y6 y7 y8 y9 y10, σ = [some (.ref a), y1, y2, y3, y4, y5, y6, y7, y8, y9, y10, none] ∧ Gr H H')
    ⟨none, none, none, none, none, none, none, none, none, none, rfl, Gr.refl H⟩ ?_ ?_⟩
  · split <;> split <;> omega
  · split <;> split <;> omega
  · rintro i σ H' hi ⟨y1, y2, y3, y4, y5, y6, y7, y8, y9, y10, rfl, g⟩
    have hi5 : i ≤ 5 := by
      split at hi <;> split at hi <;> omega
    show t_start3 K C gA gB gC _ [some (.ref a), some (.int (0 + (i : Int))), y2, y3, y4, y5, y6, y7, y8, y9, y10, none] H'
    rw [Int.zero_add]
    exact start_step3 hA hB hC E0' E1' FC FI ⟨g.sql hS.1, hS.2⟩ hi5 fun H1 z2 z3 z4 z5 z6 z7 z8 z9 z10 g1 => ⟨_, z2, z3, z4, z5, z6, z7, z8, z9, z10, rfl, g.trans g1⟩
  · rintro σ H' ⟨y1, y2, y3, y4, y5, y6, y7, y8, y9, y10, rfl, g⟩
    exact k H'
end
end G

set_option maxHeartbeats 400000
/-! Any value, said over the heap that grows while tapes turn. -/
namespace G
open PySem PySem.Spec PyProof.Rows L2 Tp
def spAnyG (K : PySem.W.Frag) : Sp := fun vs H Q _ => ∃ t : Addr, vs = [.ref t] ∧ Tape H t ∧ ∀ v d H', d ∈ dAny → Stay K H' v d → Gr H H' → Q v H'
theorem gr_exb {H H' : Hp} {t : Addr} (hT : Tape H t) (hT' : Tape H' t) (e : ExB t H H') : Gr H H' := fun a o h => by
  by_cases q : a = t
  · subst q
    obtain ⟨d, m, h1, r⟩ := hT
    obtain ⟨d', m', h1', r'⟩ := hT'
    rw [h1] at h
    cases h
    exact .inr ⟨⟨d, m, rfl, r⟩, _, h1', d', m', rfl, r'⟩
  · exact .inl (e a o q h)
/-- the dicts among the values have one entry at most -/
def oneB : PyData → Bool
  | .dict kvs => decide (kvs.length ≤ 1)
  | _ => true
theorem any_one {d : PyData} (h : d ∈ dAny) : oneB d = true := List.all_eq_true.mp (show dAny.all oneB = true by decide +kernel) d h
theorem stay_dat {K : PySem.W.Frag} {H : Hp} {v : V} {d : PyData} (h : Dat K H v d) (o : oneB d = true) : Stay K H v d := by
  cases h with
  | dp h => exact stay_dp h
  | dk h =>
    refine stay_dk h fun ⟨d, m, z, _⟩ => ?_
    have e : ∀ {a b : List (Key × V)}, HO.dK a = HO.dK b → a = b := fun z => by injection z
    have l := congrArg List.length (e z)
    simp [oneB] at o
    simp [tapeKv] at l
    omega
theorem spAny_of {K : PySem.W.Frag} {vs : List V} {H : Hp} {Q : VK} {E : XK} (h : spAnyG K vs H Q E) : spAny K vs H Q E := by
  obtain ⟨t, rfl, hT, k⟩ := h
  exact ⟨t, rfl, hT, fun v d H' hd hv hT' e => k v d H' hd (stay_dat hv (any_one hd)) (gr_exb hT hT' e)⟩
end G

set_option maxHeartbeats 400000
/-! Rules: instances, their making, comprehensions of two clauses. -/
namespace G.J
open PySem PySem.Spec PyProof.Rows L2 Tp G
/-- an instance of the class at C with these attributes -/
def names (fs : List (Str × AV)) : List Str := fs.map Prod.fst
def vals (fs : List (Str × AV)) : List AV := fs.map Prod.snd
def aO (C : Addr) (fs : List (Str × AV)) : AV := ⟨fun v H => ∃ a dx xs, v = .ref a ∧ H a = some (.ins C dx ((names fs).zip xs)) ∧ AllV (vals fs) xs H, fun _ _ _ e ⟨a, dx, xs, h1, h2, h3⟩ => ⟨a, dx, xs, h1, e.ins h2, allV_grow e h3⟩⟩
def oI (C dx : Addr) (fs : List (Str × AV)) : OC := ⟨fun o H => ∃ xs, o = .ins C dx ((names fs).zip xs) ∧ AllV (vals fs) xs H, fun _ _ _ e ⟨xs, h1, h2⟩ => ⟨xs, h1, allV_grow e h2⟩, fun _ _ ⟨xs, h1, _⟩ ⟨_, _, z, _⟩ => (by rw [h1] at z; cases z), fun _ _ ⟨xs, h1, _⟩ => .inr (.inr (.inr ⟨_, _, _, h1⟩))⟩
theorem look_vals {H : Hp} {f : Str} {B : AV} : ∀ {fs : List (Str × AV)} {xs : List V}, AllV (vals fs) xs H → fs.lookup f = some B → ∃ x, ((names fs).zip xs).lookup f = some x ∧ B.P x H
  | [], _, _, e => by simp at e
  | (g, A) :: fs, _, .cons (v := v) (vs := vs) h t, e => by
    show ∃ x, ((g, v) :: (names fs).zip vs).lookup f = some x ∧ B.P x H
    rw [List.lookup_cons] at e ⊢
    cases q : f == g with
    | true =>
      rw [q] at e
      cases e
      exact ⟨_, rfl, h⟩
    | false =>
      rw [q] at e
      exact look_vals t e
theorem look_none {f : Str} : ∀ {fs : List (Str × AV)} {xs : List V}, f ∉ names fs → ((names fs).zip xs).lookup f = none
  | [], _, _ => by simp [names]
  | (g, A) :: fs, [], _ => by simp [names]
  | (g, A) :: fs, x :: xs, h => by
    have h : f ∉ g :: names fs := h
    show ((g, x) :: (names fs).zip xs).lookup f = none
    rw [List.lookup_cons]
    have : (f == g) = false := by simpa using fun z : f = g => h (by rw [z]; exact List.mem_cons_self)
    rw [this]
    exact look_none fun z => h (List.mem_cons_of_mem _ z)
theorem put_new {f : Str} {y : V} : ∀ {fs : List (Str × AV)} {xs : List V}, xs.length = fs.length → f ∉ names fs → putF f y ((names fs).zip xs) = (names fs ++ [f]).zip (xs ++ [y])
  | [], [], _, _ => rfl
  | (g, A) :: fs, x :: xs, hl, h => by
    have h : f ∉ g :: names fs := h
    have ne : (g == f) = false := by simpa using fun z : g = f => h (by rw [z]; exact List.mem_cons_self)
    have ih := put_new (fs := fs) (xs := xs) (y := y) (by simpa using hl) fun z => h (List.mem_cons_of_mem _ z)
    show putF f y ((g, x) :: (names fs).zip xs) = (g, x) :: (names fs ++ [f]).zip (xs ++ [y])
    rw [← ih]
    have nz : g ≠ f := fun z => by simp [z] at ne
    simp [putF, ne]
    exact fun z => absurd z nz
/-- what an attribute of it is -/
def HasFld (K : PySem.W.Frag) (A : AV) (f : Str) (B : AV) : Prop := ∀ v H, A.P v H → ∃ a C dx fs x, v = .ref a ∧ H a = some (.ins C dx fs) ∧ Cls K C ∧ NoAttr K C f ∧ fs.lookup f = some x ∧ B.P x H
theorem hf_O {K : PySem.W.Frag} {C : Addr} {fs : List (Str × AV)} {f : Str} {B : AV} (cl : Cls K C) (n : NoAttr K C f) (h : fs.lookup f = some B) : HasFld K (aO C fs) f B := fun v H ⟨a, dx, xs, h1, h2, h3⟩ => by
  obtain ⟨x, q1, q2⟩ := look_vals h3 h
  exact ⟨a, C, dx, _, x, h1, h2, cl, n, q1, q2⟩
theorem io_O {C : Addr} {fs : List (Str × AV)} {m : Str} (h : m ∉ names fs) : IsObj (aO C fs) C m := fun v H ⟨a, dx, xs, h1, h2, h3⟩ => ⟨a, dx, _, h1, h2, look_none h⟩
/-- an instance of the class at C -/
def IsIns (A : AV) (C : Addr) : Prop := ∀ v H, A.P v H → ∃ a dx fs, v = .ref a ∧ H a = some (.ins C dx fs)
theorem ii_O {C : Addr} {fs : List (Str × AV)} : IsIns (aO C fs) C := fun v H ⟨a, dx, xs, h1, h2, h3⟩ => ⟨a, dx, _, h1, h2⟩
/-- promises of __init__ -/
def spI (C : Addr) (pre : List AV → (List (Str × AV) → Prop) → Prop) : Sp := fun vs H Q _ => ∃ x dx rest As Φ O, vs = .ref x :: rest ∧ H x = some (.ins C dx []) ∧ pre As Φ ∧ x ∉ O ∧ (∀ p ∈ O, Hid H p) ∧ AllV As rest (dels (x :: O) H) ∧
  ∀ fs, Φ fs → ∀ H', Gr (dels [x] H) H' → (∃ xs, H' x = some (.ins C dx ((names fs).zip xs)) ∧ AllV (vals fs) xs (dels (x :: O) H')) → Q .non H'
section
variable {K : PySem.W.Frag} {Γ : List SK} {te : TE} {ta tk : TA} {ts : TS} {Φ : AV → Prop} {E : EA} {C : Addr}
theorem wr_fld {f : Str} (h : WR Γ te fun A => ∃ B, HasFld K A f B ∧ Φ B) : WR Γ (tFld K te f) Φ := fun O0 H0 σ H e Q q =>
  h O0 H0 σ H e _ fun A ⟨B, hf, k⟩ v H1 g p => by
    obtain ⟨a, C, dx, fs, x, rfl, ha, cl, n, hl, hx⟩ := hf _ _ p
    exact ⟨a, C, dx, fs, x, rfl, (dels_some ha).2, cl, n, hl, q B k x H1 g hx⟩
/-- self.f = e in __init__ -/
theorem ws_fld {f : Str} {i : Nat} {x dx : Addr} {fs : List (Str × AV)} (hi : Γ[i]? = some (.own x (oI C dx fs))) (cl : Cls K C) (n : NoAttr K C f) (hf : f ∉ names fs) (hl : fs.length < 1000) (h : WR Γ te fun A => E.nx (Γ.set i (.own x (oI C dx (fs ++ [(f, A)]))))) :
    WS Γ (sFld K (tVar i) te f) E := fun O0 H0 σ H e D fit => h O0 H0 σ H e _ fun A k v H1 g p => by
  obtain ⟨h1, o, h2, xs, rfl, h4⟩ := (e.grow g).own hi
  have hxl : xs.length = fs.length := by rw [allV_len h4]; simp [vals]
  refine ⟨_, h1, x, C, dx, _, rfl, h2, cl, n, ?_, ?_⟩
  · simp [names, hxl]
    omega
  · refine fit.nx _ _ _ k ((e.grow g).write hi ⟨xs ++ [v], ?_, ?_⟩)
    · rw [put_new hxl hf]
      simp [names]
    · have ev : vals (fs ++ [(f, A)]) = vals fs ++ [A] := by simp [vals]
      rw [ev]
      exact allV_app h4 (.cons p .nil)
theorem fn_I {N : List Str} {pre : List AV → (List (Str × AV) → Prop) → Prop} (h : ∀ x dx As Φ, pre As Φ → ∃ n, N.length = As.length + 1 + n ∧ WS (.own x (oI C dx []) :: (As.map SK.is ++ List.replicate n SK.any)) ts { nx := fun Γ => ∃ fs, Γ[0]? = some (.own x (oI C dx fs)) ∧ owns Γ = [x] ∧ Φ fs, rt := fun _ => False })
    (vs : List V) (H : Hp) (Q : VK) (E : XK) (hs : spI C pre vs H Q E) : ts { nx := fun _ H' => Q .non H', rt := Q } (L2.start N vs) H := by
  obtain ⟨x, dx, rest, As, Φ, O, rfl, hx, hp, nx, out, ps, q⟩ := hs
  obtain ⟨n, hn, w⟩ := h x dx As Φ hp
  have hl := allV_len ps
  have ho : owns (.own x (oI C dx []) :: (As.map SK.is ++ List.replicate n SK.any)) = [x] := by
    have : owns (As.map SK.is ++ List.replicate n SK.any) = [] := by
      unfold owns
      rw [List.flatMap_eq_nil_iff]
      intro k hk
      rcases List.mem_append.mp hk with hk | hk
      · obtain ⟨a, _, rfl⟩ := List.mem_map.mp hk
        rfl
      · rw [List.eq_of_mem_replicate hk]
        rfl
    show [x] ++ owns (As.map SK.is ++ List.replicate n SK.any) = [x]
    rw [this]
    rfl
  have ec : dels (O ++ [x]) H = dels (x :: O) H := by
    funext a
    unfold dels
    simp [or_comm]
  refine w O (dels [x] H) _ H ⟨gr_dels1, out, fun p hp => ?_, by rw [ho]; simp, fun p hp => ?_, by simp [L2.start, hl, hn], fun i k hk => ?_⟩ _ ⟨fun Γ' σ' H' ⟨fs, h0, ho', k⟩ e => ?_, fun _ _ _ k => k.elim, fun _ _ _ k _ => k.elim, fun _ _ _ k _ => k.elim, fun _ _ _ _ _ _ k => k.elim, fun _ _ _ _ k => k.elim⟩
  · rw [ho] at hp
    exact dels_in hp
  · rw [ho] at hp
    obtain rfl : p = x := by simpa using hp
    exact nx
  · rw [ho]
    suffices z : ∃ y, (L2.start N (V.ref x :: rest))[i]? = some y ∧ SlotR (x :: O) H k y by
      obtain ⟨y, h1, h2⟩ := z
      exact ⟨y, h1, h2.fewer fun a ha => by
        rcases List.mem_append.mp ha with z | z
        · exact List.mem_cons_of_mem _ z
        · rw [List.mem_singleton.mp z]
          exact List.mem_cons_self⟩
    cases i with
    | zero =>
      simp at hk
      subst hk
      exact ⟨some (.ref x), by simp [L2.start], rfl, _, hx, [], rfl, .nil⟩
    | succ i =>
      have hk : (As.map SK.is ++ List.replicate n SK.any)[i]? = some k := by simpa using hk
      have es : (L2.start N (V.ref x :: rest))[i + 1]? = (rest.map some ++ List.replicate (N.length - (rest.length + 1)) none)[i]? := by simp [L2.start]
      rw [es]
      by_cases hi : i < As.length
      · rw [List.getElem?_append_left (by simpa using hi), List.getElem?_map, List.getElem?_eq_getElem hi] at hk
        cases hk
        obtain ⟨v, h1, h2⟩ := allV_get ps (List.getElem?_eq_getElem hi)
        exact ⟨some v, by rw [List.getElem?_append_left (by simp; omega), List.getElem?_map, h1]; rfl, v, rfl, h2⟩
      · rw [List.getElem?_append_right (by simpa using hi)] at hk
        have hk' := List.eq_of_mem_replicate (List.mem_of_getElem? hk)
        subst hk'
        have hj : i - As.length < n := by
          have := (List.getElem?_eq_some_iff.mp hk).1
          simpa using this
        refine ⟨none, ?_, trivial⟩
        rw [List.getElem?_append_right (by simp; omega), List.getElem?_replicate]
        simp
        omega
  · obtain ⟨_, o, h2, xs, rfl, h4⟩ := e.own h0
    refine q fs k H' e.gr ⟨xs, h2, ?_⟩
    have : cut O Γ' H' = dels (x :: O) H' := by
      unfold cut
      rw [ho']
      funext a
      unfold dels
      simp [or_comm]
    rw [← this]
    exact h4
/-- C(..) -/
theorem wr_make_core {pre : List AV → (List (Str × AV) → Prop) → Prop} {O0 : List Addr} {H0 H1 : Hp} {σ : L2.St} {Q : VK} {vs : List V} {As : List AV} {Φ' : List (Str × AV) → Prop} (e : EnvR O0 H0 Γ σ H1) (hp : pre As Φ') (ps : AllV As vs (cut O0 Γ H1)) {x dx : Addr} (nx : H1 x = none) (ndx : H1 dx = none) (ne : dx ≠ x)
    (q : ∀ fs, Φ' fs → ∀ H', Gr H1 H' → (aO C fs).P (.ref x) (cut O0 Γ H') → Q (.ref x) H') : spI C pre (.ref x :: vs) (upd (upd H1 dx (.own x)) x (.ins C dx [])) (fun v H2 => v = .non ∧ Q (.ref x) H2) E0 := by
  have g0 : Gr H1 (upd (upd H1 dx (.own x)) x (.ins C dx [])) := (Gr.new ndx).write nx
  have nO := e.fresh nx
  have eg := e.grow g0
  refine ⟨x, dx, vs, As, Φ', O0 ++ owns Γ, rfl, upd_same, hp, nO, fun p hp => eg.there hp, ?_, fun fs k H' g' ⟨xs, h1, h2⟩ => ⟨rfl, ?_⟩⟩
  · refine allV_grow (gr_of_ex fun a o z => ?_) ps
    obtain ⟨n, z⟩ := dels_some z
    have nax : a ≠ x := ne_of_none z nx
    rw [dels_out fun y => by
      rcases List.mem_cons.mp y with y | y
      · exact nax y
      · exact n y, upd_ne nax, upd_ne (ne_of_none z ndx)]
    exact z
  · have g2 : Gr H1 H' := fun a o z => by
      have nax : a ≠ x := ne_of_none z nx
      have z' : (dels [x] (upd (upd H1 dx (.own x)) x (.ins C dx []))) a = some o := by
        rw [dels_out (by simpa using nax), upd_ne nax, upd_ne (ne_of_none z ndx)]
        exact z
      exact g' a o z'
    refine q fs k H' g2 ⟨x, dx, xs, rfl, ?_, ?_⟩
    · unfold cut
      rw [dels_out nO]
      exact h1
    · exact allV_grow (gr_delsS fun a ha => List.mem_cons_of_mem _ ha) h2
theorem wr_make {pre : List AV → (List (Str × AV) → Prop) → Prop} (h : WA Γ ta fun As => pre As fun fs => Φ (aO C fs)) : WR Γ (tMake C (spI C pre) [] E0 ta) Φ := fun O0 H0 σ H e Q q =>
  h O0 H0 σ H e _ fun As hp vs H1 g ps => fun x dx nx ndx ne => by
    rw [List.append_nil]
    exact wr_make_core (e.grow g) hp ps nx ndx ne fun fs k H' g' p => q _ k _ H' (g.trans g') p
theorem wr_makeK {pre : List AV → (List (Str × AV) → Prop) → Prop} {n m : Nat} {gV : List V → List V → List V} (h : WA Γ ta fun As => WA Γ tk fun Bs => ∃ Cs, As.length = n ∧ Bs.length = m ∧ (∀ x xs ys H, AllV As xs H → AllV Bs ys H → ∃ zs, gV (V.ref x :: xs) ys = V.ref x :: zs ∧ AllV Cs zs H) ∧ pre Cs fun fs => Φ (aO C fs)) : WR Γ (tMakeK C n m (spI C pre) gV E0 ta tk) Φ := fun O0 H0 σ H e Q q =>
  h O0 H0 σ H e _ fun As hk vs H1 g ps => hk O0 H0 σ H1 (e.grow g) _ fun Bs ⟨Cs, l1, l2, hg, hp⟩ ws H2 g2 ps2 => ⟨by rw [allV_len ps, l1], by rw [allV_len ps2, l2], fun x dx nx ndx ne => by
    obtain ⟨zs, ez, hz⟩ := hg x vs ws _ (allV_grow (gr_delsM g2) ps) ps2
    rw [ez]
    exact wr_make_core ((e.grow g).grow g2) hp hz nx ndx ne fun fs k H' g' p => q _ k _ H' ((g.trans g2).trans g') p⟩
/-! ### properties, own len -/
theorem wr_prop {pre : List AV → (AV → Prop) → Prop} (h : WR Γ te fun A => IsIns A C ∧ pre [A] Φ) : WR Γ (tProp C (spW pre) [] E0 te) Φ := fun O0 H0 σ H e Q q =>
  h O0 H0 σ H e _ fun A ⟨io, hp⟩ v H1 g p => by
    obtain ⟨a, dx, fs, rfl, ha⟩ := io _ _ p
    exact ⟨a, dx, fs, rfl, (dels_some ha).2, [A], Φ, O0 ++ owns Γ, hp, fun p hp => (e.grow g).there hp, .cons p .nil, fun A a v H2 g2 p => q A a v H2 (g.trans g2) p⟩
end
end G.J

set_option maxHeartbeats 400000
/-! Rules: types, bools, pairs sorted and counted, promises from before. -/
namespace G.J
open PySem PySem.Spec PyProof.Rows L2 Tp G
section
variable {K : PySem.W.Frag} {Γ : List SK} {te ta tb tc : TE} {Φ : AV → Prop} {Ψ : OC → Prop} {tr : TA}
theorem av_up {A : AV} {v : V} {O : List Addr} {H : Hp} (h : A.P v (dels O H)) : A.P v H := A.g _ _ _ gr_dels1 h
/-! ### isinstance -/
def HasTy (K : PySem.W.Frag) (A : AV) (t : Value) : Prop := ∀ v H, A.P v H → TyX K H v t
theorem ht_S {A : AV} {d : PyData} (h : Le A (aS K d)) : HasTy K A (.type (tyD d)) := fun v H p => dat_ty (h _ _ p H (Gr.refl H))
theorem wr_isi {cv : V} {u : Value} (hc : ClsV cv u) (h : WR Γ te fun A => ∃ t b, HasTy K A t ∧ PySem.W.kitOne K t u = some b ∧ Φ (aB K b)) : WR Γ (tCB (rIsi K) (tCons te (tCons (tC cv) tNil))) Φ := fun O0 H0 σ H e Q q =>
  h O0 H0 σ H e _ fun A ⟨t, b, ht, kt, k⟩ v H1 g p => ⟨v, cv, t, u, b, rfl, hc, ht _ _ (av_up p), kt, q _ k _ H1 g (.bl b)⟩
theorem wr_isiD {U : String} (KT : KitTy K) (hU : U ∈ ["int", "bool", "tuple", "list"]) (h : WR Γ te fun A => ∃ d, Le A (aS K d) ∧ Φ (aB K (subTy (tyD d) U))) : WR Γ (tCB (rIsi K) (tCons te (tCons (tC (.ty U)) tNil))) Φ :=
  wr_isi (.ty U) (wr_mono h fun A ⟨d, l, k⟩ => ⟨_, _, ht_S l, KT d U hU, k⟩)
theorem wr_isSeq (KS : KitSeq K) (h : WR Γ te fun A => ∃ d, Le A (aS K d) ∧ Φ (aB K (itemsD d).isSome)) : WR Γ (tIsSeq K te) Φ := fun O0 H0 σ H e Q q =>
  h O0 H0 σ H e _ fun A ⟨d, l, k⟩ v H1 g p => ⟨by show 2 ≤ sizeLine; decide, fun z hz => by
    have hn : Gr H1 (upd H1 z (.tup [.ty "list", .ty "tuple"])) := Gr.new hz
    exact ⟨v, z, [.ty "list", .ty "tuple"], .type (tyD d), [.type "list", .type "tuple"], (itemsD d).isSome, rfl, upd_same, .cons (.ty "list") (.cons (.ty "tuple") .nil), dat_ty (l _ _ (av_up p) _ hn), KS d, q _ k _ _ (g.trans hn) (.bl _)⟩⟩
/-! ### all -/
theorem allV_bools {H : Hp} : ∀ {bs : List Bool} {xs : List V}, AllV (bs.map (aB K)) xs H → xs = bs.map V.bl
  | [], _, .nil => rfl
  | b :: bs, _, .cons h t => by
    rw [dp_bl h, allV_bools t]
    rfl
theorem wr_all (h : WR Γ te fun A => ∃ bs : List Bool, Le A (aQ K (bs.map (aB K))) ∧ Φ (aB K (bs.all id))) : WR Γ (tAllC K te) Φ := fun O0 H0 σ H e Q q =>
  h O0 H0 σ H e _ fun A ⟨bs, l, k⟩ v H1 g p => by
    obtain ⟨r, xs, rfl, hs, hx⟩ := l _ _ p
    obtain rfl := allV_bools hx
    exact ⟨r, bs, rfl, gr_dels1.sql hs, q _ k _ H1 g (.bl _)⟩
/-! ### chains -/
theorem wr_chain {f1 f2 : Int → Int → Bool} (h : WR Γ ta fun A => ∃ i, Le A (aI K i) ∧ WR Γ tb fun B => ∃ j, Le B (aI K j) ∧ (f1 i j = true → WR Γ tc fun C => ∃ m, Le C (aI K m) ∧ Φ (aB K (f2 j m))) ∧ (f1 i j = false → Φ (aB K false))) :
    WR Γ (tChain (rI0 fun i j => .bl (f1 i j)) (rI0 fun i j => .bl (f2 i j)) ta tb tc) Φ := fun O0 H0 σ H e Q q =>
  h O0 H0 σ H e _ fun A ⟨i, la, hb⟩ v H1 g1 p => hb O0 H0 σ H1 (e.grow g1) _ fun B ⟨j, lb, k1, k2⟩ w H2 g2 p2 => ⟨i, j, dp_int (la _ _ p), dp_int (lb _ _ p2), f1 i j, rfl, by
    cases z : f1 i j with
    | true => exact iteT (k1 z O0 H0 σ H2 ((e.grow g1).grow g2) _ fun C ⟨m, lc, k⟩ u H3 g3 p3 => ⟨j, m, dp_int (lb _ _ p2), dp_int (lc _ _ p3), q _ k _ H3 ((g1.trans g2).trans g3) (.bl _)⟩)
    | false => exact iteF (q _ (k2 z) _ H2 (g1.trans g2) (.bl _))⟩
/-! ### promises from before -/
theorem wr_isInt (h : WR Γ te fun A => ∃ d, Le A (aS K d) ∧ Φ (aB K (isIntD d))) : WR Γ (tCall (spIsInt K) [] E0 (tCons te tNil)) Φ := fun O0 H0 σ H e Q q =>
  h O0 H0 σ H e _ fun A ⟨d, l, k⟩ v H1 g p => ⟨v, d, rfl, l _ _ (av_up p), fun H2 g2 => q _ k _ H2 (g.trans g2) (.bl _)⟩
theorem wr_place (h : WR Γ ta fun A => ∃ d, Le A (aS K d) ∧ WR Γ tb fun B => ∃ n, Le B (aI K n) ∧ Φ (aB K (placeD d n))) : WR Γ (tCall (spPlace K) [] E0 (tCons ta (tCons tb tNil))) Φ := fun O0 H0 σ H e Q q =>
  h O0 H0 σ H e _ fun A ⟨d, l, hb⟩ v H1 g p => hb O0 H0 σ H1 (e.grow g) _ fun B ⟨n, lb, k⟩ w H2 g2 p2 => ⟨v, d, n, by rw [dp_int (lb _ _ p2)]; rfl, (l _ _ (av_up p)).grow g2, fun H3 g3 => q _ k _ H3 ((g.trans g2).trans g3) (.bl _)⟩
theorem wr_pick (h : WR Γ ta fun A => Le A aTape ∧ WR Γ tb fun B => ∃ n : Nat, Le B (aI K (n : Int)) ∧ 0 < n ∧ n < 2 ^ 30 ∧ ∀ r : Nat, r < n → Φ (aI K (r : Int))) : WR Γ (tCall spPick [] E0 (tCons ta (tCons tb tNil))) Φ := fun O0 H0 σ H e Q q =>
  h O0 H0 σ H e _ fun A ⟨l, hb⟩ v H1 g p => hb O0 H0 σ H1 (e.grow g) _ fun B ⟨n, lb, n0, n1, k⟩ w H2 g2 p2 => by
    obtain ⟨t, rfl, ht⟩ := l _ _ (av_up p)
    have ht2 := g2.tape_at ht
    refine ⟨t, (n : Int), by rw [dp_int (lb _ _ p2)]; rfl, ht2, by omega, by omega, fun r H3 r0 r1 dr => ?_⟩
    obtain ⟨m, rfl⟩ : ∃ m : Nat, r = (m : Int) := ⟨r.toNat, by omega⟩
    exact q _ (k m (by omega)) _ H3 ((g.trans g2).trans (Gr.drawn ht2 dr)) (.int _)
/-- one of the things -/
theorem wr_one (h : WR Γ ta fun A => Le A aTape ∧ WR Γ tb fun B => ∃ As : List AV, Le B (aL As) ∧ As ≠ [] ∧ As.length < 2 ^ 30 ∧ ∀ C ∈ As, Φ C) : WR Γ (tCall (spOne K) [] E0 (tCons ta (tCons tb tNil))) Φ := fun O0 H0 σ H e Q q =>
  h O0 H0 σ H e _ fun A ⟨l, hb⟩ v H1 g p => hb O0 H0 σ H1 (e.grow g) _ fun B ⟨As, lb, ne, hl, k⟩ w H2 g2 p2 => by
    obtain ⟨t, rfl, ht⟩ := l _ _ (av_up p)
    have ht2 := g2.tape_at ht
    obtain ⟨r, xs, rfl, hs, hx⟩ := lb _ _ p2
    have hlen := allV_len hx
    have hpos := List.length_pos_iff.mpr ne
    have hs2 := (dels_some hs).2
    refine ⟨t, r, xs, rfl, ht2, SqL.of hs2, fun z => ?_, by omega, by omega, fun i x H3 hi dr => ?_⟩
    · obtain ⟨d, m, q1, _⟩ := ht2
      rw [← z, hs2] at q1
      cases q1
    · have hil : i < As.length := by
        rw [← hlen]
        exact (List.getElem?_eq_some_iff.mp hi).1
      obtain ⟨y, h1, h2⟩ := allV_get hx (List.getElem?_eq_getElem hil)
      rw [hi] at h1
      cases h1
      have gd := Gr.drawn ht2 dr
      exact q _ (k _ (List.getElem_mem hil)) _ H3 ((g.trans g2).trans gd) (As[i].g _ _ _ (gr_delsM gd) h2)
/-! ### own len -/
theorem wr_lenOwn {C : Addr} {pre : List AV → (AV → Prop) → Prop} (h : WR Γ te fun A => IsIns A C ∧ ∃ n : Nat, pre [A] (fun B => Le B (aI K (n : Int))) ∧ n < 2 ^ 62 ∧ Φ (aI K (n : Int))) : WR Γ (tCB (rLenO C (spW pre)) (tCons te tNil)) Φ := fun O0 H0 σ H e Q q =>
  h O0 H0 σ H e _ fun A ⟨io, n, hp, hn, k⟩ v H1 g p => by
    obtain ⟨a, dx, fs, rfl, ha⟩ := io _ _ p
    exact ⟨a, dx, fs, rfl, (dels_some ha).2, [A], _, O0 ++ owns Γ, hp, fun p hp => (e.grow g).there hp, .cons p .nil, fun B lB v' H2 g2 p2 => ⟨n, dp_int (lB _ _ p2), hn, q _ k _ H2 (g.trans g2) (.int _)⟩⟩
end
end G.J

set_option maxHeartbeats 400000
/-! Rules: less told; comprehensions that map and filter. -/
namespace G.J
open PySem PySem.Spec PyProof.Rows L2 Tp G
def LeC (c c' : OC) : Prop := ∀ o H, c.R o H → c'.R o H
theorem leC_L {As Bs : List AV} (h : LeAll As Bs) : LeC (oL As) (oL Bs) := fun o H ⟨xs, h1, h2⟩ => ⟨xs, h1, h.allV h2⟩
theorem leAll_app {As Bs Cs Ds : List AV} (h : LeAll As Bs) (k : LeAll Cs Ds) : LeAll (As ++ Cs) (Bs ++ Ds) := by
  induction h with
  | nil => exact k
  | cons a _ ih => exact .cons a ih
theorem leAll_map {X : Type} {f g : X → AV} : ∀ {l : List X}, (∀ x ∈ l, Le (f x) (g x)) → LeAll (l.map f) (l.map g)
  | [], _ => .nil
  | x :: l, h => .cons (h x List.mem_cons_self) (leAll_map fun y hy => h y (List.mem_cons_of_mem _ hy))
theorem map_at {X : Type} {α : X → AV} {xs : List X} {k : Nat} {A : AV} (h : (xs.map α)[k]? = some A) : ∃ x, xs[k]? = some x ∧ A = α x := by
  rw [List.getElem?_map] at h
  cases z : xs[k]? with
  | none =>
    rw [z] at h
    cases h
  | some x =>
    rw [z] at h
    exact ⟨x, rfl, by simpa using h.symm⟩
section
variable {K : PySem.W.Frag} {Γ : List SK} {te ta tb : TE} {tt : TT} {g : TG} {wi : TI} {Φ : AV → Prop} {Ψ : OC → Prop} {E : EA} {t : TS}
theorem wr_less (h : WR Γ te fun A => ∃ A', Le A A' ∧ Φ A') : WR Γ te Φ := fun O0 H0 σ H e Q q => h O0 H0 σ H e Q fun A ⟨A', l, a⟩ v H' g p => q A' a v H' g (l _ _ p)
theorem fr_le (h : FR Γ te fun c => ∃ c', LeC c c' ∧ Ψ c') : FR Γ te Ψ := fun O0 H0 σ H e Q q => h O0 H0 σ H e Q fun c ⟨c', l, a⟩ p o H' g hp r => q c' a p o H' g hp (l _ _ r)
theorem fr_mono {Ψ' : OC → Prop} (h : FR Γ te Ψ) (k : ∀ c, Ψ c → Ψ' c) : FR Γ te Ψ' := fun O0 H0 σ H e Q q => h O0 H0 σ H e Q fun c a p o H' g hp r => q c (k c a) p o H' g hp r
theorem fr_filt {X : Type} {vs S : List Nat} (hS : ∀ i ∈ S, i ∈ vs) (ho : owns (wipeG Γ vs) = owns Γ)
    (h : WI Γ wi fun As => ∃ (xs : List X) (α β : X → AV) (pr : X → Bool), As = xs.map α ∧ xs.length ≤ 100000 ∧
      (∀ x ∈ xs, WGt g (α x) (wipeG Γ vs) S fun Γ' => owns Γ' = owns Γ ∧ WT Γ' tt fun b => b = pr x ∧ (pr x = true → WR Γ' te fun B => Le B (β x))) ∧ Ψ (oL ((xs.filter pr).map β))) : FR Γ (tLc wi g tt te vs) Ψ := by
  refine fr_le (fr_lc hS ho fun O0 H0 σ H e R r => h O0 H0 σ H e R fun As ⟨xs, α, β, pr, hA, hl, step, last⟩ J H1 g1 w => r As ⟨by rw [hA, List.length_map]; exact hl, fun k acc => LeAll acc (((xs.take k).filter pr).map β), .nil, fun k A acc hk la ia => ?_, fun acc _ ia => ?_⟩ J H1 g1 w)
  · subst hA
    obtain ⟨x, hx, rfl⟩ := map_at hk
    have st := step x (List.mem_of_getElem? hx)
    refine fun O0 H0 σ H v e p Q q => st O0 H0 σ H v e p Q fun Γ' σ' ⟨ho', wt⟩ e' hw => q Γ' σ' ⟨ho', wt_mono wt fun b ⟨hb, wr⟩ => ⟨fun ht => wr_mono (wr (by rw [← hb]; exact ht)) fun B lB => ?_, fun hf => ?_⟩⟩ e' hw
    · show LeAll (acc ++ [B]) (((xs.take (k + 1)).filter pr).map β)
      rw [take_filter hx, if_pos (by rw [← hb]; exact ht)]
      exact leAll_app ia (.cons lB .nil)
    · have hf : pr x = false := by rw [← hb]; exact hf
      show LeAll acc (((xs.take (k + 1)).filter pr).map β)
      rw [take_filter hx, hf]
      simpa using ia
  · subst hA
    rw [List.length_map, List.take_length] at ia
    exact ⟨_, leC_L ia, last⟩
theorem fr_map {X : Type} {vs S : List Nat} (hS : ∀ i ∈ S, i ∈ vs) (ho : owns (wipeG Γ vs) = owns Γ)
    (h : WI Γ wi fun As => ∃ (xs : List X) (α β : X → AV), As = xs.map α ∧ xs.length ≤ 100000 ∧
      (∀ x ∈ xs, WGt g (α x) (wipeG Γ vs) S fun Γ' => owns Γ' = owns Γ ∧ WR Γ' te fun B => Le B (β x)) ∧ Ψ (oL (xs.map β))) : FR Γ (tLc wi g tYes te vs) Ψ := by
  refine fr_filt (X := X) hS ho fun O0 H0 σ H e R r => h O0 H0 σ H e R fun As ⟨xs, α, β, hA, hl, step, last⟩ J H1 g1 w => r As ⟨xs, α, β, fun _ => true, hA, hl, fun x hx => ?_, ?_⟩ J H1 g1 w
  · refine fun O0 H0 σ H v e p Q q => step x hx O0 H0 σ H v e p Q fun Γ' σ' ⟨ho', wr⟩ e' hw => q Γ' σ' ⟨ho', wt_yes ⟨rfl, fun _ => wr⟩⟩ e' hw
  · have e : xs.filter (fun _ => true) = xs := by simp
    rw [e]
    exact last
/-- a list of our own as a value -/
theorem wr_L (h : FR Γ te fun c => ∃ As, LeC c (oL As) ∧ Φ (aL As)) : WR Γ te Φ := fr_L (fr_le (fr_mono h fun c ⟨As, l, k⟩ => ⟨oL As, l, As, rfl, k⟩))
end
end G.J

set_option maxHeartbeats 400000
/-! Readings of the defs of stretches and webs. -/
namespace G.J
open PySem PySem.Spec PyProof.Rows L2 Tp G
abbrev rMod : R2 := rI (fun _ j => 0 < j) fun i j => .int (i % j)
/-- the addresses of the classes -/
structure Cl where
  F : Addr
  S : Addr
  W : Addr
abbrev rAdd : R2 := Tp.rAdd
abbrev rSub : R2 := Tp.rSub
abbrev SpP := List AV → (AV → Prop) → Prop
abbrev N_cell : List Str := ["value"]
def t_cell (K : PySem.W.Frag) (Cs : Cl)  : TS :=
  (tSeq (tIfS (tOr (tNot (tB (tCB (rIsi K) (tCons (tVar 0) (tCons (tC (.ty "tuple")) tNil))))) (tTest (tOp rNe (tCB (Tp.rLen K) (tCons (tVar 0) tNil)) (tC (.int 2))))) (tRet (tC (.bl false))) tNext)
  (tRet (tAndV (tCall (spPlace K) [] E0 (tCons (tOp (rIxT K) (tVar 0) (tC (.int 0))) (tCons (tOp rAdd (tC (.int 9)) (tC (.int 1))) tNil))) (tCB (rIsi K) (tCons (tOp (rIxT K) (tVar 0) (tC (.int 1))) (tCons (tC (.ty "bool")) tNil))))))
abbrev N_col : List Str := ["frame", "value", "cell"]
def t_col (K : PySem.W.Frag) (Cs : Cl) (pCell : SpP) : TS :=
  (tSeq (tIfS (tOr (tNot (tB (tCB (rIsi K) (tCons (tVar 1) (tCons (tC (.ty "tuple")) tNil))))) (tTest (tOp rNe (tCB (Tp.rLen K) (tCons (tVar 1) tNil)) (tFld K (tVar 0) "width")))) (tRet (tC (.bl false))) tNext)
  (tRet (tCB (rAll K) (tCons (tLc (iTup K (tVar 1)) (gName 2) tYes (tCall (spW pCell) [] E0 (tCons (tVar 2) tNil)) [2]) tNil))))
abbrev N_sInit : List Str := ["self", "frame", "columns", "number", "column"]
def t_sInit (K : PySem.W.Frag) (Cs : Cl) (pCol : SpP) : TS :=
  (tSeq (tIfS (tNot (tB (tCB (rIsiT K) (tCons (tVar 2) (tCons (tTup (tCons (tC (.ty "list")) (tCons (tC (.ty "tuple")) tNil))) tNil))))) tNever tNext)
  (tSeq (tFor (iEnum K (tCons (tVar 2) tNil)) (gTup K 2 (gCons (gName 3) (gCons (gName 4) gNil))) (tIfS (tNot (tB (tCall (spW pCol) [] E0 (tCons (tVar 1) (tCons (tVar 4) tNil))))) tNever tNext))
  (tSeq (sFld K (tVar 0) (tVar 1) "frame")
  (sFld K (tVar 0) (tCB (rTupOf K) (tCons (tVar 2) tNil)) "_columns"))))
abbrev N_sEq : List Str := ["self", "other"]
def t_sEq (K : PySem.W.Frag) (Cs : Cl) (eF : R2) : TS :=
  (tRet (tAndV (tCB (rIsi K) (tCons (tVar 1) (tCons (tC (.ref Cs.S)) tNil))) (tAndV (tOp eF (tFld K (tVar 0) "frame") (tFld K (tVar 1) "frame")) (tOp (rEqD K) (tFld K (tVar 0) "_columns") (tFld K (tVar 1) "_columns")))))
abbrev N_sLen : List Str := ["self"]
def t_sLen (K : PySem.W.Frag) (Cs : Cl)  : TS :=
  (tRet (tCB (Tp.rLen K) (tCons (tFld K (tVar 0) "_columns") tNil)))
abbrev N_sCols : List Str := ["self"]
def t_sCols (K : PySem.W.Frag) (Cs : Cl)  : TS :=
  (tRet (tCB (rLstOf K) (tCons (tFld K (tVar 0) "_columns") tNil)))
abbrev N_wInit : List Str := ["self", "stretch", "closed", "fewest"]
def t_wInit (K : PySem.W.Frag) (Cs : Cl) (pLen : SpP) : TS :=
  (tSeq (tAsg (tIf (tB (tVar 2)) (tC (.int 3)) (tC (.int 1))) (gName 3))
  (tSeq (tIfS (tTest (tOp rLt (tCB (rLenO Cs.S (spW pLen)) (tCons (tVar 1) tNil)) (tVar 3))) tNever tNext)
  (tSeq (sFld K (tVar 0) (tVar 1) "stretch")
  (sFld K (tVar 0) (tVar 2) "closed"))))
abbrev N_wEq : List Str := ["self", "other"]
def t_wEq (K : PySem.W.Frag) (Cs : Cl) (eS : R2) : TS :=
  (tRet (tAndV (tCB (rIsi K) (tCons (tVar 1) (tCons (tC (.ref Cs.W)) tNil))) (tAndV (tOp eS (tFld K (tVar 0) "stretch") (tFld K (tVar 1) "stretch")) (tOp rEq (tFld K (tVar 0) "closed") (tFld K (tVar 1) "closed")))))
abbrev N_seats : List Str := ["self", "width", "column", "row"]
def t_seats (K : PySem.W.Frag) (Cs : Cl) (pLen : SpP) : TS :=
  (tSeq (tAsg (tFld K (tFld K (tFld K (tVar 0) "stretch") "frame") "width") (gName 1))
  (tRet (tLc2 (iRng1 (tCons (tCB (rLenO Cs.S (spW pLen)) (tCons (tFld K (tVar 0) "stretch") tNil)) tNil)) (gName 2) tYes (iRng1 (tCons (tVar 1) tNil)) (gName 3) tYes (tTup (tCons (tVar 2) (tCons (tVar 3) tNil))) [2, 3] [3])))
abbrev N_isSeat : List Str := ["self", "value"]
def t_isSeat (K : PySem.W.Frag) (Cs : Cl) (pLen : SpP) : TS :=
  (tSeq (tIfS (tOr (tNot (tB (tCB (rIsi K) (tCons (tVar 1) (tCons (tC (.ty "tuple")) tNil))))) (tTest (tOp rNe (tCB (Tp.rLen K) (tCons (tVar 1) tNil)) (tC (.int 2))))) (tRet (tC (.bl false))) tNext)
  (tRet (tAndV (tCall (spPlace K) [] E0 (tCons (tOp (rIxT K) (tVar 1) (tC (.int 0))) (tCons (tCB (rLenO Cs.S (spW pLen)) (tCons (tFld K (tVar 0) "stretch") tNil)) tNil))) (tCall (spPlace K) [] E0 (tCons (tOp (rIxT K) (tVar 1) (tC (.int 1))) (tCons (tFld K (tFld K (tFld K (tVar 0) "stretch") "frame") "width") tNil))))))
abbrev N_areSeats : List Str := ["self", "value", "seat"]
def t_areSeats (K : PySem.W.Frag) (Cs : Cl) (pSeat : SpP) : TS :=
  (tSeq (tIfS (tNot (tB (tCB (rIsi K) (tCons (tVar 1) (tCons (tC (.ty "list")) tNil))))) (tRet (tC (.bl false))) tNext)
  (tRet (tAndV (tCB (rAll K) (tCons (tLc (iList K (tVar 1)) (gName 2) tYes (tMeth Cs.W "is_seat" (spW pSeat) [] E0 (tVar 0) (tCons (tVar 2) tNil)) [2]) tNil)) (tOp rEq (tLenSetT K (tVar 1)) (tCB (Tp.rLen K) (tCons (tVar 1) tNil))))))
abbrev N_wCell : List Str := ["self", "seat", "column", "row"]
def t_wCell (K : PySem.W.Frag) (Cs : Cl) (pSeat pCols : SpP) : TS :=
  (tSeq (tIfS (tNot (tB (tMeth Cs.W "is_seat" (spW pSeat) [] E0 (tVar 0) (tCons (tVar 1) tNil)))) tNever tNext)
  (tSeq (tAsg (tVar 1) (gTup K 2 (gCons (gName 2) (gCons (gName 3) gNil))))
  (tRet (tOp (rIxT K) (tOp (rIxL K) (tProp Cs.S (spW pCols) [] E0 (tFld K (tVar 0) "stretch")) (tVar 2)) (tVar 3)))))
abbrev N_near : List Str := ["self", "seat", "frame", "column", "row", "beside", "ahead", "behind", "other", "place"]
def t_near (K : PySem.W.Frag) (Cs : Cl) (pSeat pAt : SpP) : TS :=
  (tSeq (tIfS (tNot (tB (tMeth Cs.W "is_seat" (spW pSeat) [] E0 (tVar 0) (tCons (tVar 1) tNil)))) tNever tNext)
  (tSeq (tAsg (tFld K (tFld K (tVar 0) "stretch") "frame") (gName 2))
  (tSeq (tAsg (tVar 1) (gTup K 2 (gCons (gName 3) (gCons (gName 4) gNil))))
  (tSeq (tAsg (tLc (iTup K (tMeth Cs.F "beside" (sBes K Cs.F) [] E0 (tVar 2) (tCons (tVar 4) tNil))) (gName 8) tYes (tTup (tCons (tVar 3) (tCons (tVar 8) tNil))) [8]) (gName 5))
  (tSeq (tAsg (tLc2 (iList K (tMeth Cs.W "_at" (spW pAt) [] E0 (tVar 0) (tCons (tOp rSub (tVar 3) (tC (.int 1))) tNil))) (gName 9) tYes (iTup K (tMeth Cs.F "back" (sBack K Cs.F) [] E0 (tVar 2) (tCons (tVar 4) tNil))) (gName 8) tYes (tTup (tCons (tVar 9) (tCons (tVar 8) tNil))) [9, 8] [8]) (gName 6))
  (tSeq (tAsg (tLc2 (iList K (tMeth Cs.W "_at" (spW pAt) [] E0 (tVar 0) (tCons (tOp rAdd (tVar 3) (tC (.int 1))) tNil))) (gName 9) tYes (iTup K (tMeth Cs.F "onward" (sOn K Cs.F) [] E0 (tVar 2) (tCons (tVar 4) tNil))) (gName 8) tYes (tTup (tCons (tVar 9) (tCons (tVar 8) tNil))) [9, 8] [8]) (gName 7))
  (tRet (tCB (rSortTT K 2 64) (tCons (tOp rCat (tOp rCat (tVar 5) (tVar 6)) (tVar 7)) tNil)))))))))
abbrev N_at : List Str := ["self", "place", "many"]
def t_at (K : PySem.W.Frag) (Cs : Cl) (pLen : SpP) : TS :=
  (tSeq (tAsg (tCB (rLenO Cs.S (spW pLen)) (tCons (tFld K (tVar 0) "stretch") tNil)) (gName 2))
  (tSeq (tIfS (tB (tFld K (tVar 0) "closed")) (tRet (tLst (tCons (tOp rMod (tVar 1) (tVar 2)) tNil))) tNext)
  (tRet (tIf (tTest (tChain rLe rLt (tC (.int 0)) (tVar 1) (tVar 2))) (tLst (tCons (tVar 1) tNil)) (tLst tNil)))))
end G.J

set_option maxHeartbeats 400000
/-! Cells, columns, stretches. -/
namespace G.J
open PySem PySem.Spec PyProof.Rows L2 Tp G
abbrev Cell := Int × Bool
def cellD (x : Cell) : PyData := .tuple [.int x.1, .bool x.2]
def colD (c : List Cell) : PyData := .tuple (c.map cellD)
def isBoolD : PyData → Bool
  | .bool _ => true
  | _ => false
def cellB (d : PyData) : Bool := match d with
  | .tuple [a, b] => placeD a 10 && isBoolD b
  | _ => false
section
variable {K : PySem.W.Frag} {Cs : Cl}
theorem le_ST {ds : List PyData} : Le (aS K (.tuple ds)) (aD K (.tuple ds)) := fun v H h => by
  have z := h H (Gr.refl H)
  cases z with
  | dp z => exact z
theorem le_SL {ds : List PyData} : Le (aS K (.list ds)) (aD K (.list ds)) := fun v H h => by
  have z := h H (Gr.refl H)
  cases z with
  | dp z => exact z
theorem le_SB {b : Bool} : Le (aS K (.bool b)) (aB K b) := fun v H h => by
  have z := h H (Gr.refl H)
  cases z with
  | dp z => exact z
theorem le_SI {i : Int} : Le (aS K (.int i)) (aI K i) := fun v H h => by
  have z := h H (Gr.refl H)
  cases z with
  | dp z => exact z
theorem sub_tup (d : PyData) : subTy (tyD d) "tuple" = isTupD d := by cases d <;> rfl
theorem sub_bool (d : PyData) : subTy (tyD d) "bool" = isBoolD d := by cases d <;> rfl
theorem tup_of {d : PyData} (h : isTupD d = true) : ∃ ds, d = .tuple ds := by cases d <;> first | exact ⟨_, rfl⟩ | cases h
def pCell (K : PySem.W.Frag) : SpP := fun As Φ => ∃ A d, As = [A] ∧ Le A (aS K d) ∧ Φ (aB K (cellB d))
theorem pure_cell (KT : KitTy K) : ∀ vs H Q E, spW (pCell K) vs H Q E → t_cell K Cs { nx := fun _ H' => Q .non H', rt := Q } (L2.start N_cell vs) H := fn_W (K := K) fun As Φ ⟨A, d, hA, l, k⟩ => by
  subst hA
  refine ⟨0, rfl, ?_⟩
  unfold t_cell
  refine ws_seq (ws_if (wt_or (wt_not (wt_B (wr_isiD KT (by simp) (wr_var (A := A) rfl ⟨d, l, _, le_rfl, fun h1 => ⟨fun _ => ?_, fun z => nomatch z⟩, fun h1 => ?_⟩))))))
  · refine ws_ret (wr_bl (K := K) ?_)
    have : cellB d = false := by
      rw [sub_tup] at h1
      cases d <;> first | rfl | cases h1
    rw [this] at k
    exact k
  · have h2 : isTupD d = true := by
      rw [sub_tup] at h1
      simpa using h1
    obtain ⟨ds, rfl⟩ := tup_of h2
    have lt : Le A (aT K (ds.map (aD K))) := l.trans (le_ST.trans le_DT)
    refine wt_test (wr_neI (wr_len (wr_var (A := A) rfl ⟨_, hl_T lt, _, le_rfl, wr_int ⟨_, le_rfl, _, le_rfl, fun h3 => ?_, fun h3 => ?_⟩⟩)))
    · refine ws_ret (wr_bl (K := K) ?_)
      have : cellB (.tuple ds) = false := by
        match ds, h3 with
        | [], _ => rfl
        | [_], _ => rfl
        | [_, _], h3 => simp at h3
        | _ :: _ :: _ :: _, _ => rfl
      rw [this] at k
      exact k
    · refine ws_next ?_
      match ds, h3, lt, k with
      | [], h3, _, _ => simp at h3
      | [_], h3, _, _ => simp at h3
      | _ :: _ :: _ :: _, h3, _, _ => simp at h3; omega
      | [a, b], _, lt, k =>
        refine ws_ret (wr_andV (wr_place (wr_ixT (wr_var (A := A) rfl ⟨_, lt, wr_int ⟨0, aD K a, le_rfl, rfl, a, le_DS, wr_add (wr_int ⟨_, le_rfl, wr_int ⟨_, le_rfl, _, le_rfl, _, le_rfl, fun h4 => ?_, fun h4 => ?_⟩⟩)⟩⟩))))
        · refine wr_isiD KT (by simp) (wr_ixT (wr_var (A := A) rfl ⟨_, lt, wr_int ⟨1, aD K b, le_rfl, rfl, b, le_DS, ?_⟩⟩))
          have e : cellB (.tuple [a, b]) = subTy (tyD b) "bool" := by
            rw [sub_bool]
            show (placeD a 10 && isBoolD b) = isBoolD b
            rw [show placeD a 10 = true from h4]
            rfl
          rw [e] at k
          exact k
        · have e : cellB (.tuple [a, b]) = false := by
            show (placeD a 10 && isBoolD b) = false
            rw [show placeD a 10 = false from h4]
            rfl
          rw [e] at k
          exact k
end
end G.J

set_option maxHeartbeats 400000
/-! Columns, stretches. -/
namespace G.J
open PySem PySem.Spec PyProof.Rows L2 Tp G
section
variable {K : PySem.W.Frag} {Cs : Cl}
def aF (K : PySem.W.Frag) (CF : Addr) (p : Plan) : AV := ⟨PFr K CF p, grows_PFr⟩
theorem hf_W {CF : Addr} {p : Plan} (FC : FrCls K CF) : HasFld K (aF K CF p) "width" (aI K p.w) := fun v H ⟨x, e, dx, vi, vo, h1, h2, h3⟩ => ⟨x, CF, dx, _, .int p.w, e, h1, FC.cl, FC.n1, rfl, .int _⟩
def colB (w : Int) (d : PyData) : Bool := match d with
  | .tuple ds => decide ((ds.length : Int) = w) && ds.all cellB
  | _ => false
def pCol (K : PySem.W.Frag) (CF : Addr) : SpP := fun As Φ => ∃ A B p d, As = [A, B] ∧ Le A (aF K CF p) ∧ Le B (aS K d) ∧ (∀ ds, d = .tuple ds → ds.length ≤ 100000) ∧ Φ (aB K (colB p.w d))
theorem HasFld.le {A B : AV} {f : Str} {C : AV} (l : Le A B) (h : HasFld K B f C) : HasFld K A f C := fun v H p => h _ _ (l _ _ p)
theorem IsIns.le {A B : AV} {C : Addr} (l : Le A B) (h : IsIns B C) : IsIns A C := fun v H p => h _ _ (l _ _ p)
theorem IsObj.le {A B : AV} {C : Addr} {m : Str} (l : Le A B) (h : IsObj B C m) : IsObj A C m := fun v H p => h _ _ (l _ _ p)
theorem pure_col (KT : KitTy K) (FC : FrCls K Cs.F) : ∀ vs H Q E, spW (pCol K Cs.F) vs H Q E → t_col K Cs (pCell K) { nx := fun _ H' => Q .non H', rt := Q } (L2.start N_col vs) H := fn_W (K := K) fun As Φ ⟨A, B, p, d, hA, lA, lB, hl, k⟩ => by
  subst hA
  refine ⟨1, rfl, ?_⟩
  unfold t_col
  refine ws_seq (ws_if (wt_or (wt_not (wt_B (wr_isiD KT (by simp) (wr_var (A := B) rfl ⟨d, lB, _, le_rfl, fun h1 => ⟨fun _ => ?_, fun z => nomatch z⟩, fun h1 => ?_⟩))))))
  · refine ws_ret (wr_bl (K := K) ?_)
    have : colB p.w d = false := by
      rw [sub_tup] at h1
      cases d <;> first | rfl | cases h1
    rw [this] at k
    exact k
  · have h2 : isTupD d = true := by
      rw [sub_tup] at h1
      simpa using h1
    obtain ⟨ds, rfl⟩ := tup_of h2
    have lt : Le B (aT K (ds.map (aD K))) := lB.trans (le_ST.trans le_DT)
    refine wt_test (wr_neI (wr_len (wr_var (A := B) rfl ⟨_, hl_T lt, _, le_rfl, wr_fld (wr_var (A := A) rfl ⟨_, (hf_W FC).le lA, _, le_rfl, _, le_rfl, fun h3 => ?_, fun h3 => ?_⟩)⟩)))
    · refine ws_ret (wr_bl (K := K) ?_)
      have : colB p.w (.tuple ds) = false := by
        show (decide ((ds.length : Int) = p.w) && ds.all cellB) = false
        have : decide ((ds.length : Int) = p.w) = false := by simpa using h3
        rw [this]
        rfl
      rw [this] at k
      exact k
    · refine ws_next (ws_ret (wr_all (wr_L (fr_map (X := PyData) (S := [2]) (by simp) rfl (wi_tup (wr_var (A := B) rfl ⟨_, lt, ds, aD K, fun d => aB K (cellB d), rfl, hl ds rfl, fun x hx => ?_, ?_⟩))))))
      · exact wg_name ⟨rfl, wr_call (wa_cons (wr_var (A := aD K x) rfl (wa_nil ⟨_, x, rfl, le_DS, le_rfl⟩)))⟩
      · refine ⟨_, fun _ _ z => z, ds.map cellB, ?_, ?_⟩
        · rw [List.map_map]
          exact le_LQ
        · have : colB p.w (.tuple ds) = (ds.map cellB).all id := by
            show (decide ((ds.length : Int) = p.w) && ds.all cellB) = _
            have h4 : decide ((ds.length : Int) = p.w) = true := by simpa using h3
            rw [h4, List.all_map]
            rfl
          rw [this] at k
          simpa using k
/-- a stretch's abstract value -/
def aSt (K : PySem.W.Frag) (Cs : Cl) (p : Plan) (cols : List (List Cell)) : AV := aO Cs.S [("frame", aF K Cs.F p), ("_columns", aD K (.tuple (cols.map colD)))]
structure StCls (K : PySem.W.Frag) (C : Addr) : Prop where
  cl : Cls K C
  n1 : NoAttr K C "frame"
  n2 : NoAttr K C "_columns"
/-- columns of the frame -/
def ColsOk (p : Plan) (cols : List (List Cell)) : Prop := ∀ c ∈ cols, (c.length : Int) = p.w ∧ ∀ x ∈ c, 0 ≤ x.1 ∧ x.1 ≤ 9
theorem colB_ok {p : Plan} {c : List Cell} (h : (c.length : Int) = p.w ∧ ∀ x ∈ c, 0 ≤ x.1 ∧ x.1 ≤ 9) : colB p.w (colD c) = true := by
  show (decide (((c.map cellD).length : Int) = p.w) && (c.map cellD).all cellB) = true
  rw [List.length_map, Bool.and_eq_true]
  refine ⟨by simpa using h.1, List.all_eq_true.mpr fun d hd => ?_⟩
  obtain ⟨x, hx, rfl⟩ := List.mem_map.mp hd
  have := h.2 x hx
  show (placeD (.int x.1) 10 && true) = true
  rw [Bool.and_true]
  show decide _ = true
  simp
  omega
end
end G.J

set_option maxHeartbeats 400000
/-! Rules: enumerate, == of mapped data. -/
namespace G.J
open PySem PySem.Spec PyProof.Rows L2 Tp G
section
variable {K : PySem.W.Frag} {Γ : List SK} {te : TE} {Φs : List AV → Prop}
def enumA (K : PySem.W.Frag) (As : List AV) : List AV := (List.range As.length).map fun (k : Nat) => aT K [aI K (k : Int), As.getD k (aN K)]
theorem enum_len {As : List AV} : (enumA K As).length = As.length := by simp [enumA]
theorem enum_at {As : List AV} {k : Nat} {A : AV} (h : (enumA K As)[k]? = some A) : ∃ B, As[k]? = some B ∧ A = aT K [aI K (k : Int), B] := by
  have hk : k < As.length := by
    have := (List.getElem?_eq_some_iff.mp h).1
    rwa [enum_len] at this
  refine ⟨As[k], List.getElem?_eq_getElem hk, ?_⟩
  unfold enumA at h
  rw [List.getElem?_map, List.getElem?_range hk] at h
  have e : As.getD k (aN K) = As[k] := by simp [List.getD, List.getElem?_eq_getElem hk]
  rw [← e]
  simpa using h.symm
theorem wi_enum (h : WR Γ te fun A => ∃ As, Le A (aQ K As) ∧ Φs (enumA K As)) : WI Γ (iEnum K (tCons te tNil)) Φs := fun O0 H0 σ H e R r =>
  h O0 H0 σ H e _ fun A ⟨As, la, k⟩ v H1 g p => by
    obtain ⟨a, xs, rfl, hs, hx⟩ := la _ _ p
    refine ⟨a, xs, rfl, gr_dels1.sql hs, r _ k _ H1 g ?_⟩
    rw [enum_len, ← allV_len hx]
    refine walk_enum.mono (fun H' g' => g'.sql hs) fun i H x H' hi _ y => ?_
    obtain ⟨T, u, w, rfl, hT, rfl, hu, hw⟩ := y
    have hi' : i < As.length := by rw [← allV_len hx]; exact hi
    obtain ⟨w', h1, h2⟩ := allV_get hx (List.getElem?_eq_getElem hi')
    have hw : xs[i]? = some w := hw
    rw [hw] at h1
    cases h1
    have hu : V.int (i : Nat) = u := by simpa using hu
    subst hu
    refine ⟨Gr.new hT, aT K [aI K (i : Int), As[i]], ?_, fun O out gB => ?_⟩
    · unfold enumA
      rw [List.getElem?_map, List.getElem?_range hi']
      simp [List.getD, List.getElem?_eq_getElem hi']
    · have nO : T ∉ O := fun z => (out T z).ne hT
      refine ⟨T, _, rfl, ?_, .cons (.int _) (.cons (As[i].g _ _ _ gB h2) .nil)⟩
      exact Evl.st_of (by rw [dels_out nO, upd_same])
end
end G.J

set_option maxHeartbeats 400000
/-! Stretches made, their columns, their length. -/
namespace G.J
open PySem PySem.Spec PyProof.Rows L2 Tp G
section
variable {K : PySem.W.Frag} {Cs : Cl}
theorem mapAt {X Y : Type} {f : X → Y} {xs : List X} {k : Nat} {y : Y} (h : (xs.map f)[k]? = some y) : ∃ x, xs[k]? = some x ∧ y = f x := by
  rw [List.getElem?_map] at h
  cases z : xs[k]? with
  | none =>
    rw [z] at h
    cases h
  | some x =>
    rw [z] at h
    exact ⟨x, rfl, by simpa using h.symm⟩
theorem ok_w {p : Plan} (h : p.Ok) : ∃ w : Nat, p.w = (w : Int) ∧ 1 ≤ w ∧ w ≤ 3 := by
  obtain ⟨w, h1, h2, h3, _⟩ := h
  exact ⟨w, h1, h2, h3⟩
abbrev dCols (cols : List (List Cell)) : List PyData := cols.map colD
def fSt (K : PySem.W.Frag) (Cs : Cl) (p : Plan) (cols : List (List Cell)) : List (Str × AV) := [("frame", aF K Cs.F p), ("_columns", aD K (.tuple (dCols cols)))]
def pStr (K : PySem.W.Frag) (Cs : Cl) : List AV → (List (Str × AV) → Prop) → Prop := fun As Φ => ∃ A B p cols, As = [A, B] ∧ p.Ok ∧ Le A (aF K Cs.F p) ∧ Le B (aD K (.list (dCols cols))) ∧ ColsOk p cols ∧ cols.length ≤ 1000 ∧ Φ (fSt K Cs p cols)
theorem wr_isSeqD (KS : KitSeq K) {Γ : List SK} {te : TE} {Φ : AV → Prop} (h : WR Γ te fun A => ∃ d, Le A (aS K d) ∧ Φ (aB K (itemsD d).isSome)) : WR Γ (tCB (rIsiT K) (tCons te (tCons (tTup (tCons (tC (.ty "list")) (tCons (tC (.ty "tuple")) tNil))) tNil))) Φ := wr_isSeq KS h
theorem pure_sInit (KS : KitSeq K) (SC : StCls K Cs.S) : ∀ vs H Q E, spI Cs.S (pStr K Cs) vs H Q E → t_sInit K Cs (pCol K Cs.F) { nx := fun _ H' => Q .non H', rt := Q } (L2.start N_sInit vs) H := fn_I fun x dx As Φ ⟨A, B, p, cols, hA, pok, lA, lB, ok, hl, k⟩ => by
  subst hA
  refine ⟨2, rfl, ?_⟩
  unfold t_sInit
  refine ws_seq (ws_if (wt_not (wt_B (wr_isSeqD KS (wr_var (A := B) rfl ⟨_, lB.trans le_DS, true, le_rfl, fun z => (nomatch z), fun _ => ws_next ?_⟩)))))
  refine ws_seq (ws_for (wi_enum (wr_var (A := B) rfl ⟨_, lB.trans le_DQ, fun _ Γ' => Γ' = [.own x (oI Cs.S dx []), .is A, .is B, .any, .any], rfl, fun k C Γ' hk e => ?_, fun Γ' e => ?_⟩)))
  · subst e
    obtain ⟨D, hD, rfl⟩ := enum_at hk
    obtain ⟨d, hd, rfl⟩ := map_at hD
    obtain ⟨c, hc, rfl⟩ := mapAt hd
    refine ⟨[3, 4], wg_tup ⟨_, le_rfl, rfl, wgs_cons (fun _ => rfl) (wgs_cons (fun _ => rfl) (wgs_nil ?_))⟩⟩
    refine ws_if (wt_not (wt_B (K := K) (wr_call (wa_cons (wr_var (A := A) rfl (wa_cons (wr_var (A := aD K (colD c)) rfl (wa_nil ⟨A, _, p, colD c, rfl, lA, le_DS, fun ds hds => ?_, true, ?_, fun z => (nomatch z), fun _ => ws_any 3 (ws_any 4 (ws_next rfl))⟩))))))))
    · cases hds
      obtain ⟨w, e1, _, e2⟩ := ok_w pok
      have := (ok c (List.mem_of_getElem? hc)).1
      rw [List.length_map]
      omega
    · rw [colB_ok (ok c (List.mem_of_getElem? hc))]
      exact le_rfl
  · subst e
    refine ws_seq (ws_fld rfl SC.cl SC.n1 (by simp [names]) (by simp) (wr_less (wr_var (A := A) rfl ⟨_, lA, ?_⟩)))
    refine ws_fld rfl SC.cl SC.n2 (by show ("_columns" : Str) ∉ [("frame" : Str)]; decide) (by simp) (wr_less (wr_tupOf (wr_var (A := B) rfl ⟨_, lB.trans le_DQ, _, le_TD, _, rfl, rfl, k⟩)))
theorem hf_sF {p : Plan} {cols : List (List Cell)} (SC : StCls K Cs.S) : HasFld K (aSt K Cs p cols) "frame" (aF K Cs.F p) := hf_O SC.cl SC.n1 rfl
theorem hf_sC {p : Plan} {cols : List (List Cell)} (SC : StCls K Cs.S) : HasFld K (aSt K Cs p cols) "_columns" (aD K (.tuple (dCols cols))) := hf_O SC.cl SC.n2 rfl
def pLen (K : PySem.W.Frag) (Cs : Cl) : SpP := fun As Φ => ∃ A p cols, As = [A] ∧ Le A (aSt K Cs p cols) ∧ Φ (aI K ((cols.length : Nat) : Int))
theorem pure_sLen (SC : StCls K Cs.S) : ∀ vs H Q E, spW (pLen K Cs) vs H Q E → t_sLen K Cs { nx := fun _ H' => Q .non H', rt := Q } (L2.start N_sLen vs) H := fn_W (K := K) fun As Φ ⟨A, p, cols, hA, l, k⟩ => by
  subst hA
  refine ⟨0, rfl, ?_⟩
  unfold t_sLen
  refine ws_ret (wr_len (wr_fld (wr_var (A := A) rfl ⟨_, (hf_sC SC).le l, _, hl_T le_DT, ?_⟩)))
  simpa using k
def pCols (K : PySem.W.Frag) (Cs : Cl) : SpP := fun As Φ => ∃ A p cols, As = [A] ∧ Le A (aSt K Cs p cols) ∧ Φ (aL ((dCols cols).map (aD K)))
theorem pure_sCols (SC : StCls K Cs.S) : ∀ vs H Q E, spW (pCols K Cs) vs H Q E → t_sCols K Cs { nx := fun _ H' => Q .non H', rt := Q } (L2.start N_sCols vs) H := fn_W (K := K) fun As Φ ⟨A, p, cols, hA, l, k⟩ => by
  subst hA
  refine ⟨0, rfl, ?_⟩
  unfold t_sCols
  exact ws_ret (wr_L (fr_lstOf (wr_fld (wr_var (A := A) rfl ⟨_, (hf_sC SC).le l, _, .inr le_DT, _, fun _ _ z => z, k⟩))))
end
end G.J

set_option maxHeartbeats 400000
/-! == of stretches; webs made, compared. -/
namespace G.J
open PySem PySem.Spec PyProof.Rows L2 Tp G
/-! ### == of data, mapped -/
theorem eqv_ll (xs ys : List PyData) : PyData.eqv (.list xs) (.list ys) = PyData.eqvAll xs ys := by rw [PyData.eqv]
theorem eqv_tt (xs ys : List PyData) : PyData.eqv (.tuple xs) (.tuple ys) = PyData.eqvAll xs ys := by rw [PyData.eqv]
theorem eqvAll_map {X : Type} [DecidableEq X] {f : X → PyData} (h : ∀ a b, PyData.eqv (f a) (f b) = decide (a = b)) : ∀ l m : List X, PyData.eqvAll (l.map f) (m.map f) = decide (l = m)
  | [], [] => by simp [PyData.eqvAll]
  | [], b :: m => by simp [PyData.eqvAll]
  | a :: l, [] => by simp [PyData.eqvAll]
  | a :: l, b :: m => by
    show PyData.eqvAll (f a :: l.map f) (f b :: m.map f) = _
    rw [PyData.eqvAll, h a b, eqvAll_map h l m]
    simp
theorem eqv_int (i j : Int) : PyData.eqv (.int i) (.int j) = decide (i = j) := by
  rw [PyData.eqv]
  by_cases h : i = j <;> simp [h]
theorem eqv_bool (i j : Bool) : PyData.eqv (.bool i) (.bool j) = decide (i = j) := by
  rw [PyData.eqv]
  cases i <;> cases j <;> rfl
theorem eqv_cell (a b : Cell) : PyData.eqv (cellD a) (cellD b) = decide (a = b) := by
  unfold cellD
  rw [eqv_tt, PyData.eqvAll, PyData.eqvAll, PyData.eqvAll, eqv_int, eqv_bool]
  obtain ⟨a1, a2⟩ := a
  obtain ⟨b1, b2⟩ := b
  simp
theorem eqv_col (a b : List Cell) : PyData.eqv (colD a) (colD b) = decide (a = b) := by
  unfold colD
  rw [eqv_tt, eqvAll_map eqv_cell]
theorem eqv_pairD (a b : Pr) : PyData.eqv (pairD a) (pairD b) = decide (a = b) := by
  unfold pairD
  rw [eqv_tt, PyData.eqvAll, PyData.eqvAll, PyData.eqvAll, eqv_int, eqv_int]
  obtain ⟨a1, a2⟩ := a
  obtain ⟨b1, b2⟩ := b
  simp
theorem item_cell (x : Cell) : item (cellD x) = true := by
  unfold item cellD
  simp [noL, noL.noLs, PyData.canLay0, PyData.canLayAll0, PyData.depth, PyData.depthAll]
theorem item_tup {ds : List PyData} (h : ∀ d ∈ ds, item d = true ∧ d.depth ≤ 40) : item (.tuple ds) = true := by
  have h1 : noL.noLs ds = true := noLs_all.mpr fun d hd => by
    have := (h d hd).1
    unfold item at this
    simp only [Bool.and_eq_true] at this
    exact this.1.1
  have h2 := (item_lay fun d hd => (h d hd).1).1
  have h3 : PyData.depthAll ds ≤ 40 := by
    clear h1 h2
    induction ds with
    | nil => simp [PyData.depthAll]
    | cons d ds ih =>
      have a := (h d List.mem_cons_self).2
      have b := ih fun x hx => h x (List.mem_cons_of_mem _ hx)
      simp [PyData.depthAll]
      omega
  unfold item
  have e1 : noL (.tuple ds) = true := by simpa [noL] using h1
  have e2 : (PyData.tuple ds).canLay0 = true := by simpa [PyData.canLay0] using h2
  have e3 : (PyData.tuple ds).depth ≤ 60 := by
    simp [PyData.depth]
    omega
  rw [e1, e2, decide_eq_true e3]
  rfl
theorem depth_cell (x : Cell) : (cellD x).depth ≤ 5 := by simp [cellD, PyData.depth, PyData.depthAll]
theorem depth_tup {n : Nat} {ds : List PyData} (h : ∀ d ∈ ds, d.depth ≤ n) : (PyData.tuple ds).depth ≤ n + 1 := by
  have h3 : PyData.depthAll ds ≤ n := by
    induction ds with
    | nil => simp [PyData.depthAll]
    | cons d ds ih =>
      have a := h d List.mem_cons_self
      have b := ih fun x hx => h x (List.mem_cons_of_mem _ hx)
      simp [PyData.depthAll]
      omega
  simp [PyData.depth]
  omega
theorem item_col (c : List Cell) : item (colD c) = true := item_tup fun d hd => by
  obtain ⟨x, _, rfl⟩ := List.mem_map.mp hd
  exact ⟨item_cell x, Nat.le_trans (depth_cell x) (by decide)⟩
theorem depth_col (c : List Cell) : (colD c).depth ≤ 6 := depth_tup fun d hd => by
  obtain ⟨x, _, rfl⟩ := List.mem_map.mp hd
  exact depth_cell x
theorem items_cols (cols : List (List Cell)) : ∀ d ∈ dCols cols, item d = true := fun d hd => by
  obtain ⟨x, _, rfl⟩ := List.mem_map.mp hd
  exact item_col x
section
variable {K : PySem.W.Frag} {Cs : Cl} {Γ : List SK} {ta tb : TE} {Φ : AV → Prop}
theorem ht_O {C : Addr} {fs : List (Str × AV)} (FI : FrIs K C) : HasTy K (aO C fs) (.ref C) := fun v H ⟨a, dx, xs, h1, h2, h3⟩ => by
  subst h1
  exact .base (.ins h2 FI.cl FI.ha FI.hn FI.tk FI.mo)
theorem HasTy.le {A B : AV} {t : Value} (l : Le A B) (h : HasTy K B t) : HasTy K A t := fun v H p => h _ _ (l _ _ p)
/-- == by an own __eq__ -/
theorem wr_eqO {C : Addr} {pre : SpP} (h : WR Γ ta fun A => IsIns A C ∧ WR Γ tb fun B => ∃ t, HasTy K B t ∧ PySem.W.notFirst K C t = true ∧ pre [A, B] fun R => ∃ b, Le R (aB K b) ∧ Φ (aB K b)) : WR Γ (tOp (rEqF K C (spW pre)) ta tb) Φ := fun O0 H0 σ H e Q q =>
  h O0 H0 σ H e _ fun A ⟨io, hb⟩ v H1 g p => hb O0 H0 σ H1 (e.grow g) _ fun B ⟨t, ht, nf, hp⟩ w H2 g2 p2 => by
    have p' := A.g _ _ _ (gr_delsM g2) p
    obtain ⟨a, dx, fs, rfl, ha⟩ := io _ _ (av_up p')
    exact ⟨a, dx, fs, t, rfl, ha, ht _ _ (av_up p2), nf, [A, B], _, O0 ++ owns Γ, hp, fun p hp => ((e.grow g).grow g2).there hp, .cons p' (.cons p2 .nil), fun R ⟨b, lb, k⟩ z H3 g3 p3 => ⟨b, dp_bl (lb _ _ p3), q _ k _ H3 ((g.trans g2).trans g3) (lb _ _ p3)⟩⟩
/-- == of frames -/
theorem wr_eqFr {CF : Addr} (FI : FrIs K CF) (h : WR Γ ta fun A => ∃ p, Le A (aF K CF p) ∧ WR Γ tb fun B => ∃ q, Le B (aF K CF q) ∧ Φ (aB K (sameP p q))) : WR Γ (tOp (rEqF K CF (spFEq K CF)) ta tb) Φ := fun O0 H0 σ H e Q q =>
  h O0 H0 σ H e _ fun A ⟨pl, la, hb⟩ v H1 g p => hb O0 H0 σ H1 (e.grow g) _ fun B ⟨ql, lb, k⟩ w H2 g2 p2 => by
    obtain ⟨x, rfl, hx⟩ := la _ _ (av_up p)
    obtain ⟨y, rfl, hy⟩ := lb _ _ (av_up p2)
    have hx2 := hx.grow g2
    obtain ⟨dx, vi, vo, at_, _⟩ := id hx2
    exact ⟨x, dx, _, .ref CF, rfl, at_, fr_ty FI hy, nc, x, .ref y, pl, some ql, rfl, hx2, ⟨y, rfl, hy⟩, fun H3 g3 => ⟨_, rfl, q _ k _ H3 ((g.trans g2).trans g3) (.bl _)⟩⟩
theorem pdCols {cols : List (List Cell)} : SeqAt.shaped (.tuple (dCols cols)) = true := shaped_tup (items_cols cols)
/-- == of stretches -/
def sameS (p q : Plan) (a b : List (List Cell)) : Bool := sameP p q && decide (a = b)
def pSEq (K : PySem.W.Frag) (Cs : Cl) : SpP := fun As Φ => ∃ A B p cols, As = [A, B] ∧ Le A (aSt K Cs p cols) ∧
  ((∃ q cols', Le B (aSt K Cs q cols') ∧ Φ (aB K (sameS p q cols cols'))) ∨ ∃ t, HasTy K B t ∧ PySem.W.kitOne K t (.ref Cs.S) = some false ∧ Φ (aB K false))
theorem pure_sEq (SC : StCls K Cs.S) (FI : FrIs K Cs.F) (SI : FrIs K Cs.S) : ∀ vs H Q E, spW (pSEq K Cs) vs H Q E → t_sEq K Cs (rEqF K Cs.F (spFEq K Cs.F)) { nx := fun _ H' => Q .non H', rt := Q } (L2.start N_sEq vs) H := fn_W (K := K) fun As Φ ⟨A, B, p, cols, hA, l, k⟩ => by
  subst hA
  refine ⟨0, rfl, ?_⟩
  unfold t_sEq
  rcases k with ⟨q, cols', lB, k⟩ | ⟨t, hB, kt, k⟩
  · refine ws_ret (wr_andV (wr_isi (.own Cs.S) (wr_var (A := B) rfl ⟨_, true, (ht_O SI).le lB, SI.kc, true, le_rfl, fun _ => ?_, fun z => nomatch z⟩)))
    refine wr_andV (wr_eqFr FI (wr_fld (wr_var (A := A) rfl ⟨_, (hf_sF SC).le l, _, le_rfl, wr_fld (wr_var (A := B) rfl ⟨_, (hf_sF SC).le lB, _, le_rfl, _, le_rfl, fun h => ?_, fun h => ?_⟩)⟩)))
    · refine wr_eqD (wr_fld (wr_var (A := A) rfl ⟨_, (hf_sC SC).le l, _, le_rfl, wr_fld (wr_var (A := B) rfl ⟨_, (hf_sC SC).le lB, _, le_rfl, pdCols, pdCols, ?_⟩)⟩))
      rw [eqv_tt, eqvAll_map eqv_col]
      have : sameS p q cols cols' = decide (cols = cols') := by
        unfold sameS
        rw [h]
        rfl
      rw [this] at k
      exact k
    · have : sameS p q cols cols' = false := by
        unfold sameS
        rw [h]
        rfl
      rw [this] at k
      exact k
  · exact ws_ret (wr_andV (wr_isi (.own Cs.S) (wr_var (A := B) rfl ⟨_, false, hB, kt, false, le_rfl, fun z => (nomatch z), fun _ => k⟩)))
/-! ### webs -/
def aW (K : PySem.W.Frag) (Cs : Cl) (p : Plan) (cols : List (List Cell)) (ring : Bool) : AV := aO Cs.W [("stretch", aSt K Cs p cols), ("closed", aB K ring)]
structure WbCls (K : PySem.W.Frag) (C : Addr) : Prop where
  cl : Cls K C
  n1 : NoAttr K C "stretch"
  n2 : NoAttr K C "closed"
def few (ring : Bool) : Nat := if ring = true then 3 else 1
def pWeb (K : PySem.W.Frag) (Cs : Cl) : List AV → (List (Str × AV) → Prop) → Prop := fun As Φ => ∃ A B p cols ring, As = [A, B] ∧ Le A (aSt K Cs p cols) ∧ Le B (aB K ring) ∧ few ring ≤ cols.length ∧ cols.length < 2 ^ 60 ∧ Φ [("stretch", aSt K Cs p cols), ("closed", aB K ring)]
theorem pure_wInit (WC : WbCls K Cs.W) : ∀ vs H Q E, spI Cs.W (pWeb K Cs) vs H Q E → t_wInit K Cs (pLen K Cs) { nx := fun _ H' => Q .non H', rt := Q } (L2.start N_wInit vs) H := fn_I fun x dx As Φ ⟨A, B, p, cols, ring, hA, lA, lB, hf, hl, k⟩ => by
  subst hA
  refine ⟨1, rfl, ?_⟩
  unfold t_wInit
  refine ws_seq (ws_asg (wr_if (wt_B (K := K) (wr_var (A := B) rfl ⟨ring, lB, fun h => wr_int (K := K) ?_, fun h => wr_int (K := K) ?_⟩))))
  all_goals
    refine ws_seq (ws_if (wt_test (wr_lt (wr_lenOwn (wr_var (A := A) rfl ⟨ii_O.le lA, cols.length, ⟨A, p, cols, rfl, lA, le_rfl⟩, by omega, _, le_rfl, wr_var rfl ⟨_, le_rfl, _, le_rfl, fun z => ?_, fun _ => ws_next ?_⟩⟩)))))
    · have z := of_decide_eq_true z
      unfold few at hf
      simp only [h] at hf
      simp at hf
      omega
    · refine ws_seq (ws_fld rfl WC.cl WC.n1 (by simp [names]) (by simp) (wr_less (wr_var (A := A) rfl ⟨_, lA, ?_⟩)))
      exact ws_fld rfl WC.cl WC.n2 (by show ("closed" : Str) ∉ [("stretch" : Str)]; decide) (by simp) (wr_less (wr_var (A := B) rfl ⟨_, lB, _, rfl, rfl, k⟩))
end
end G.J

set_option maxHeartbeats 400000
/-! Rules: comprehensions of two clauses. -/
namespace G.J
open PySem PySem.Spec PyProof.Rows L2 Tp G
section
variable {K : PySem.W.Frag} {Γ : List SK} {te : TE} {g g1 : TG} {wi wi1 : TI} {Ψ : OC → Prop}
theorem wipe_self {σ σ2 : L2.St} {vs : List Nat} (h : ∀ us : List Nat, (∀ i ∈ vs, i ∈ us) → L2.wipe σ2 us = L2.wipe (L2.wipe σ vs) us) : L2.wipe σ2 vs = L2.wipe σ vs := by
  rw [h vs fun _ z => z]
  exact List.ext_getElem? fun j => by rw [wipe_get, wipe_get, wipe_length]; by_cases q : j ∈ vs <;> simp [q, wipe_get]
theorem wipe_self2 {σ σ2 : L2.St} {vs S : List Nat} (hS : ∀ i ∈ S, i ∈ vs) (h : ∀ us : List Nat, (∀ i ∈ S, i ∈ us) → L2.wipe σ2 us = L2.wipe (L2.wipe σ vs) us) : L2.wipe σ2 vs = L2.wipe σ vs := by
  rw [h vs hS]
  exact List.ext_getElem? fun j => by rw [wipe_get, wipe_get, wipe_length]; by_cases q : j ∈ vs <;> simp [q, wipe_get]
/-- the state of a comprehension: what was there, and the new list at D -/
def Acc (O0 : List Addr) (H0 : Hp) (Γ : List SK) (σ : L2.St) (D : Addr) (H1 : Hp) (acc : List AV) (H' : Hp) : Prop :=
  ∃ xs, H' D = some (.lst xs) ∧ AllV acc xs (cut (D :: O0) Γ H') ∧ EnvR (D :: O0) H0 Γ σ H' ∧ Gr H1 H'
theorem Acc.grow {O0 : List Addr} {H0 : Hp} {σ : L2.St} {D : Addr} {H1 : Hp} {acc : List AV} {H' H'' : Hp} (h : Acc O0 H0 Γ σ D H1 acc H') (g : Gr H' H'') : Acc O0 H0 Γ σ D H1 acc H'' := by
  obtain ⟨xs, h1, h2, h3, h4⟩ := h
  exact ⟨xs, g.lst h1, allV_grow (gr_delsM g) h2, h3.grow g, h4.trans g⟩
theorem Acc.push {O0 : List Addr} {H0 : Hp} {σ : L2.St} {D : Addr} {H1 : Hp} {acc : List AV} {H' : Hp} {B : AV} {y : V} (hD : H1 D = none) (hD0 : H0 D = none) (h : Acc O0 H0 Γ σ D H1 acc H') (p : B.P y (cut (D :: O0) Γ H')) : ∃ xs, H' D = some (.lst xs) ∧ xs.length = acc.length ∧ Acc O0 H0 Γ σ D H1 (acc ++ [B]) (upd H' D (.lst (xs ++ [y]))) := by
  obtain ⟨xs, h1, h2, h3, h4⟩ := h
  have ec : cut (D :: O0) Γ (upd H' D (.lst (xs ++ [y]))) = cut (D :: O0) Γ H' := dels_upd_in (by simp)
  refine ⟨xs, h1, allV_len h2, xs ++ [y], upd_same, ?_, h3.behind (.inl ⟨_, rfl⟩) hD0, h4.write hD⟩
  rw [ec]
  exact allV_app h2 (.cons p .nil)
theorem flat_take {X : Type} {f : X → List AV} {xs : List X} {k : Nat} {x : X} (h : xs[k]? = some x) : (xs.take (k + 1)).flatMap f = (xs.take k).flatMap f ++ f x := by
  rw [take_snoc h, List.flatMap_append]
  simp
theorem map_take {X : Type} {f : X → AV} {xs : List X} {k : Nat} {x : X} (h : xs[k]? = some x) : (xs.take (k + 1)).map f = (xs.take k).map f ++ [f x] := by
  rw [take_snoc h, List.map_append]
  rfl
theorem leAll_len {As Bs : List AV} (h : LeAll As Bs) : As.length = Bs.length := by
  induction h with
  | nil => rfl
  | cons _ _ ih => simp [ih]
theorem flat_len {X : Type} {f : X → List AV} {n : Nat} : ∀ {xs : List X}, (∀ x ∈ xs, (f x).length ≤ n) → (xs.flatMap f).length ≤ xs.length * n
  | [], _ => by simp
  | x :: xs, h => by
    have a := h x List.mem_cons_self
    have b := flat_len fun y hy => h y (List.mem_cons_of_mem _ hy)
    simp [Nat.succ_mul] at b ⊢
    omega
theorem fr_map2 {X Y : Type} {vs vs1 S S1 : List Nat} (hS : ∀ i ∈ S, i ∈ vs) (hS1 : ∀ i ∈ S1, i ∈ vs1) (ho : owns (wipeG Γ vs) = owns Γ)
    (h : WI Γ wi fun As => ∃ (xs : List X) (ys : X → List Y) (α : X → AV) (α' : X → Y → AV) (β : X → Y → AV), As = xs.map α ∧ xs.length ≤ 1000 ∧ (∀ x ∈ xs, (ys x).length ≤ 1000) ∧
      (∀ x ∈ xs, WGt g (α x) (wipeG Γ vs) S fun Γ' => owns Γ' = owns Γ ∧ owns (wipeG Γ' vs1) = owns Γ' ∧ WI Γ' wi1 fun Bs => Bs = (ys x).map (α' x) ∧
        ∀ y ∈ ys x, WGt g1 (α' x y) (wipeG Γ' vs1) S1 fun Γ'' => owns Γ'' = owns Γ' ∧ WR Γ'' te fun B => Le B (β x y)) ∧
      Ψ (oL (xs.flatMap fun x => (ys x).map (β x)))) : FR Γ (tLc2 wi g tYes wi1 g1 tYes te vs vs1) Ψ := fr_le fun O0 H0 σ H e Q q => by
  refine h O0 H0 σ H e _ fun As ⟨xs, ys, α, α', β, hA, hl, hly, step, last⟩ J H1 g1' w D hD => ?_
  have e1 := e.grow g1'
  have hD0 : H0 D = none := e1.gr.back hD
  have hn : As.length = xs.length := by rw [hA, List.length_map]
  have start : Acc O0 H0 Γ σ D H1 [] (upd H1 D (.lst [])) := ⟨[], upd_same, .nil, e1.shield (.inl ⟨_, rfl⟩) hD, Gr.new hD⟩
  refine ⟨fun i m H' => m = As.length - i ∧ i ≤ As.length ∧ ∃ acc, LeAll acc ((xs.take i).flatMap fun x => (ys x).map (β x)) ∧ Acc O0 H0 Γ σ D H1 acc H', ⟨_, rfl, Nat.zero_le _, [], .nil, start⟩, ?_⟩
  rintro i m H' ⟨rfl, hi, acc, la, ac⟩
  have gG : Gr (cut O0 Γ H1) H' := by
    obtain ⟨_, _, _, _, g'⟩ := ac
    exact gr_dels1.trans g'
  by_cases hlt : i < As.length
  · refine .inr ⟨w.goes i H' hlt gG, fun H2 => ∃ acc, LeAll acc ((xs.take (i + 1)).flatMap fun x => (ys x).map (β x)) ∧ Acc O0 H0 Γ σ D H1 acc H2, fun H2 z => ⟨As.length - (i + 1), by omega, rfl, hlt, z⟩, fun x H'' y => ?_⟩
    obtain ⟨gy, A, hAi, hxA⟩ := w.yields i H' x H'' hlt gG y
    subst hA
    obtain ⟨x0, hx0, rfl⟩ := map_at hAi
    have ac2 := ac.grow gy
    obtain ⟨_, _, _, e', g'⟩ := id ac
    have e'' := (e'.grow gy).wipe vs
    have gc : Gr (cut O0 Γ H1) (dels ((D :: O0) ++ owns (wipeG Γ vs)) H'') := fun a o z => by
      obtain ⟨n, z⟩ := dels_some z
      have ne : a ≠ D := ne_of_none z hD
      rw [dels_out fun y => by
        rw [ho] at y
        rcases List.mem_cons.mp y with y | y
        · exact ne y
        · exact n y]
      exact (g'.trans gy) a o z
    refine step x0 (List.mem_of_getElem? hx0) (D :: O0) H0 (L2.wipe σ vs) H'' x e'' (hxA _ (fun p hp => by rw [ho] at hp; exact e'.there hp) gc) _ fun Γ' σ2 ⟨ho', ho1, wi'⟩ e2 hw => ?_
    refine ⟨wipe_self2 hS hw, ?_⟩
    refine wt_yes (Γ := Γ') (B := fun b => b = true) rfl (D :: O0) H0 σ2 H'' e2 _ fun b hb H3 g3 => ?_
    subst hb
    refine iteT ?_
    have ac2 := ac2.grow g3
    have e2 := e2.grow g3
    refine wi' (D :: O0) H0 σ2 H3 e2 _ fun Bs ⟨hB, step1⟩ J1 H4 g4 w1 => ?_
    have ac4 := ac2.grow g4
    have e4 := e2.grow g4
    have hly0 := hly x0 (List.mem_of_getElem? hx0)
    have hn1 : Bs.length = (ys x0).length := by rw [hB, List.length_map]
    refine ⟨fun j k H5 => k = Bs.length - j ∧ j ≤ Bs.length ∧ ∃ acc, LeAll acc (((xs.take i).flatMap fun x => (ys x).map (β x)) ++ ((ys x0).take j).map (β x0)) ∧ Acc O0 H0 Γ σ D H1 acc H5 ∧ EnvR (D :: O0) H0 Γ' σ2 H5 ∧ Gr (cut (D :: O0) Γ' H4) H5, ⟨_, rfl, Nat.zero_le _, acc, by simpa using la, ac4, e4, gr_dels1⟩, ?_⟩
    rintro j k H5 ⟨rfl, hj, acc', la', ac', e5, g5⟩
    by_cases hjt : j < Bs.length
    · refine .inr ⟨w1.goes j H5 hjt g5, fun H6 => ∃ acc, LeAll acc (((xs.take i).flatMap fun x => (ys x).map (β x)) ++ ((ys x0).take (j + 1)).map (β x0)) ∧ Acc O0 H0 Γ σ D H1 acc H6 ∧ EnvR (D :: O0) H0 Γ' σ2 H6 ∧ Gr (cut (D :: O0) Γ' H4) H6, fun H6 z => ⟨Bs.length - (j + 1), by omega, rfl, hjt, z⟩, fun y H6 yy => ?_⟩
      obtain ⟨gy1, A1, hA1, hyA⟩ := w1.yields j H5 y H6 hjt g5 yy
      subst hB
      obtain ⟨y0, hy0, rfl⟩ := map_at hA1
      have e6 := (e5.grow gy1).wipe vs1
      have gc1 : Gr (cut (D :: O0) Γ' H4) (dels ((D :: O0) ++ owns (wipeG Γ' vs1)) H6) := fun a o z => by
        obtain ⟨n, z'⟩ := dels_some z
        rw [ho1, dels_out n]
        exact (g5.trans gy1) a o z
      refine step1 y0 (List.mem_of_getElem? hy0) (D :: O0) H0 (L2.wipe σ2 vs1) H6 y e6 (hyA _ (fun p hp => by rw [ho1] at hp; exact e5.there hp) gc1) _ fun Γ'' σ3 ⟨ho'', wr⟩ e7 hw1 => ?_
      refine ⟨wipe_self2 hS1 hw1, ?_⟩
      refine wt_yes (Γ := Γ'') (B := fun b => b = true) rfl (D :: O0) H0 σ3 H6 e7 _ fun b hb H6' g6 => ?_
      subst hb
      refine iteT ?_
      have e7 := e7.grow g6
      have gy1 := gy1.trans g6
      refine wr (D :: O0) H0 σ3 H6' e7 _ fun B lB z H7 g7 pB => ?_
      have pB' : B.P z (cut (D :: O0) Γ H7) := by
        have pB : B.P z (dels ((D :: O0) ++ owns Γ'') H7) := pB
        rw [ho'', ho'] at pB
        exact pB
      obtain ⟨ws, h1, h2, h3⟩ := ((ac'.grow gy1).grow g7).push hD hD0 pB'
      have lens := leAll_len la'
      have fl : ((xs.take i).flatMap fun x => (ys x).map (β x)).length ≤ (xs.take i).length * 1000 := flat_len fun x hx => by
        rw [List.length_map]
        exact hly x (List.mem_of_mem_take hx)
      refine ⟨ws, h1, ?_, acc' ++ [B], ?_, h3, ?_, ?_⟩
      · rw [h2, lens, List.length_append, List.length_map, List.length_take]
        rw [List.length_take] at fl
        have : sizeLine = 16777216 := by decide
        have m1 : min i xs.length ≤ 1000 := Nat.le_trans (Nat.min_le_right _ _) hl
        have m2 : min i xs.length * 1000 ≤ 1000 * 1000 := Nat.mul_le_mul_right _ m1
        have m3 : min j (ys x0).length ≤ 1000 := Nat.le_trans (Nat.min_le_right _ _) hly0
        omega
      · rw [map_take hy0, ← List.append_assoc]
        exact leAll_app la' (.cons lB .nil)
      · exact (((e5.grow gy1).grow g7)).behind (.inl ⟨_, rfl⟩) hD0
      · refine fun a o z => ?_
        have ne : a ≠ D := fun y => by
          obtain ⟨n, _⟩ := dels_some z
          exact n (by rw [y]; simp)
        rw [upd_ne ne]
        exact ((g5.trans gy1).trans g7) a o z
    · have ej : j = Bs.length := by omega
      subst ej
      refine .inl ⟨w1.stops H5 g5, acc', ?_, ac'⟩
      rw [flat_take hx0]
      rw [hn1, List.take_length] at la'
      exact la'
  · have ei : i = As.length := by omega
    subst ei
    refine .inl ⟨w.stops H' gG, ?_⟩
    obtain ⟨zs, hDl, hx, e', g'⟩ := ac
    have eu : upd (dels [D] H') D (.lst zs) = H' := by
      funext a
      by_cases z : a = D
      · subst z
        rw [upd_same, hDl]
      · rw [upd_ne z, dels_out (by simpa using z)]
    have gd : Gr H (dels [D] H') := fun a o z => by
      have ne : a ≠ D := ne_of_none z (g1'.back hD)
      rw [dels_out (by simpa using ne)]
      exact (g1'.trans g') a o z
    have ec : cut O0 Γ (dels [D] H') = cut (D :: O0) Γ H' := by
      funext a
      unfold cut dels
      by_cases z : a = D
      · subst z
        simp
      · simp [z]
    rw [hn, List.take_length] at la
    have z := q (oL acc) ⟨_, leC_L la, last⟩ D (.lst zs) (dels [D] H') gd (dels_in (by simp)) ⟨zs, rfl, by rw [ec]; exact hx⟩
    rwa [eu] at z
end
end G.J

set_option maxHeartbeats 400000
/-! Webs: compared, their seats, cells. -/
namespace G.J
open PySem PySem.Spec PyProof.Rows L2 Tp G
section
variable {K : PySem.W.Frag} {Cs : Cl} {Γ : List SK} {ta tb : TE} {Φ : AV → Prop}
theorem hf_wS {p : Plan} {cols : List (List Cell)} {ring : Bool} (WC : WbCls K Cs.W) : HasFld K (aW K Cs p cols ring) "stretch" (aSt K Cs p cols) := hf_O WC.cl WC.n1 rfl
theorem hf_wC {p : Plan} {cols : List (List Cell)} {ring : Bool} (WC : WbCls K Cs.W) : HasFld K (aW K Cs p cols ring) "closed" (aB K ring) := hf_O WC.cl WC.n2 rfl
/-- what Python's == says of two bools, by rEq -/
theorem wr_eqB (h : WR Γ ta fun A => ∃ i, Le A (aB K i) ∧ WR Γ tb fun B => ∃ j, Le B (aB K j) ∧ Φ (aB K (decide (i = j)))) : WR Γ (tOp rEq ta tb) Φ := fun O0 H0 σ H e Q q =>
  h O0 H0 σ H e _ fun A ⟨i, la, hb⟩ v H1 g1 p => hb O0 H0 σ H1 (e.grow g1) _ fun B ⟨j, lb, k⟩ w H2 g2 p2 => by
    rw [dp_bl (la _ _ p), dp_bl (lb _ _ p2)]
    refine ⟨rfl, q _ k _ H2 (g1.trans g2) ?_⟩
    have e : decide (V.bl i = V.bl j) = decide (i = j) := by
      rw [decide_eq_decide]
      exact ⟨fun h => V.bl.inj h, fun h => by rw [h]⟩
    rw [e]
    exact .bl _
def pWEq (K : PySem.W.Frag) (Cs : Cl) : SpP := fun As Φ => ∃ A B p cols ring, As = [A, B] ∧ Le A (aW K Cs p cols ring) ∧
  ((∃ q cols' ring', Le B (aW K Cs q cols' ring') ∧ Φ (aB K (sameS p q cols cols' && decide (ring = ring')))) ∨ ∃ t, HasTy K B t ∧ PySem.W.kitOne K t (.ref Cs.W) = some false ∧ Φ (aB K false))
theorem pure_wEq (WC : WbCls K Cs.W) (SI : FrIs K Cs.S) (WI : FrIs K Cs.W) : ∀ vs H Q E, spW (pWEq K Cs) vs H Q E → t_wEq K Cs (rEqF K Cs.S (spW (pSEq K Cs))) { nx := fun _ H' => Q .non H', rt := Q } (L2.start N_wEq vs) H := fn_W (K := K) fun As Φ ⟨A, B, p, cols, ring, hA, l, k⟩ => by
  subst hA
  refine ⟨0, rfl, ?_⟩
  unfold t_wEq
  rcases k with ⟨q, cols', ring', lB, k⟩ | ⟨t, hB, kt, k⟩
  · refine ws_ret (wr_andV (wr_isi (.own Cs.W) (wr_var (A := B) rfl ⟨_, true, (ht_O WI).le lB, WI.kc, true, le_rfl, fun _ => ?_, fun z => nomatch z⟩)))
    refine wr_andV (wr_eqO (wr_fld (wr_var (A := A) rfl ⟨_, (hf_wS WC).le l, ii_O, wr_fld (wr_var (A := B) rfl ⟨_, (hf_wS WC).le lB, _, ht_O SI, nc, _, _, p, cols, rfl, le_rfl, .inl ⟨q, cols', le_rfl, _, le_rfl, _, le_rfl, fun h => ?_, fun h => ?_⟩⟩)⟩)))
    · refine wr_eqB (wr_fld (wr_var (A := A) rfl ⟨_, (hf_wC WC).le l, _, le_rfl, wr_fld (wr_var (A := B) rfl ⟨_, (hf_wC WC).le lB, _, le_rfl, ?_⟩)⟩))
      rw [h] at k
      exact k
    · rw [h] at k
      exact k
  · exact ws_ret (wr_andV (wr_isi (.own Cs.W) (wr_var (A := B) rfl ⟨_, false, hB, kt, false, le_rfl, fun z => (nomatch z), fun _ => k⟩)))
/-! ### seats -/
abbrev aPrs (K : PySem.W.Frag) (l : List Pr) : List AV := l.map fun s => aD K (pairD s)
theorem le_pr {a b : Int} : Le (aT K [aI K a, aI K b]) (aD K (pairD (a, b))) := le_TD (ds := [.int a, .int b])
theorem le_pr' {s : Pr} : Le (aD K (pairD s)) (aT K [aI K s.1, aI K s.2]) := le_DT (ds := [.int s.1, .int s.2])
abbrev SpFP := List AV → (OC → Prop) → Prop
def pSeats (K : PySem.W.Frag) (Cs : Cl) : SpFP := fun As Φ => ∃ A p cols ring, ∃ w : Nat, As = [A] ∧ Le A (aW K Cs p cols ring) ∧ p.w = (w : Int) ∧ w ≤ 3 ∧ cols.length ≤ 1000 ∧ Φ (oL (aPrs K (gridP cols.length w)))
theorem pure_seats (FC : FrCls K Cs.F) (SC : StCls K Cs.S) (WC : WbCls K Cs.W) : ∀ vs H Q E, spF (pSeats K Cs) vs H Q E → t_seats K Cs (pLen K Cs) { nx := fun _ H' => Q .non H', rt := Q } (L2.start N_seats vs) H := fn_F fun As Φ ⟨A, p, cols, ring, w, hA, l, hw, hw3, hl, k⟩ => by
  subst hA
  refine ⟨3, rfl, ?_⟩
  unfold t_seats
  refine ws_seq (ws_asg (wr_fld (wr_fld (wr_fld (wr_var (A := A) rfl ⟨_, (hf_wS WC).le l, _, hf_sF SC, _, hf_W FC, ?_⟩)))))
  refine ws_retF (fr_map2 (X := Nat) (Y := Nat) (S := [2]) (S1 := [3]) (by simp) (by simp) rfl (wi_rng1 (wr_lenOwn (wr_fld (wr_var (A := A) rfl ⟨_, (hf_wS WC).le l, ii_O, cols.length, ⟨_, p, cols, rfl, le_rfl, le_rfl⟩, by omega, cols.length, le_rfl, by omega,
    List.range cols.length, fun _ => List.range w, _, fun _ (k : Nat) => aI K (k : Int), fun (a b : Nat) => aD K (pairD ((a : Int), (b : Int))), rfl, by simpa using hl, fun _ _ => by simp; omega, fun x hx => ?_, ?_⟩)))))
  · refine wg_name ⟨rfl, rfl, wi_rng1 (wr_var (A := aI K p.w) rfl ⟨w, by rw [hw]; exact le_rfl, by omega, rfl, fun y hy => wg_name ⟨rfl, ?_⟩⟩)⟩
    exact wr_tup (wa_cons (wr_var rfl (wa_cons (wr_var rfl (wa_nil ⟨by simp, le_pr⟩)))))
  · have : ((List.range cols.length).flatMap fun (x : Nat) => (List.range w).map fun (y : Nat) => aD K (pairD ((x : Int), (y : Int)))) = aPrs K (gridP cols.length w) := by
      unfold aPrs gridP
      rw [List.map_flatMap]
      simp [List.map_map, Function.comp_def]
    rw [this]
    exact k
/-! ### is_seat -/
def seatB (n : Nat) (w : Int) (d : PyData) : Bool := match d with
  | .tuple [a, b] => placeD a (n : Int) && placeD b w
  | _ => false
def pSeat (K : PySem.W.Frag) (Cs : Cl) : SpP := fun As Φ => ∃ A B p cols ring d, As = [A, B] ∧ Le A (aW K Cs p cols ring) ∧ cols.length ≤ 1000 ∧ Le B (aS K d) ∧ Φ (aB K (seatB cols.length p.w d))
theorem pure_isSeat (KT : KitTy K) (FC : FrCls K Cs.F) (SC : StCls K Cs.S) (WC : WbCls K Cs.W) : ∀ vs H Q E, spW (pSeat K Cs) vs H Q E → t_isSeat K Cs (pLen K Cs) { nx := fun _ H' => Q .non H', rt := Q } (L2.start N_isSeat vs) H := fn_W (K := K) fun As Φ ⟨A, B, p, cols, ring, d, hA, lA, hl, l, k⟩ => by
  subst hA
  refine ⟨0, rfl, ?_⟩
  unfold t_isSeat
  refine ws_seq (ws_if (wt_or (wt_not (wt_B (wr_isiD KT (by simp) (wr_var (A := B) rfl ⟨d, l, _, le_rfl, fun h1 => ⟨fun _ => ?_, fun z => nomatch z⟩, fun h1 => ?_⟩))))))
  · refine ws_ret (wr_bl (K := K) ?_)
    have : seatB cols.length p.w d = false := by
      rw [sub_tup] at h1
      cases d <;> first | rfl | cases h1
    rw [this] at k
    exact k
  · have h2 : isTupD d = true := by
      rw [sub_tup] at h1
      simpa using h1
    obtain ⟨ds, rfl⟩ := tup_of h2
    have lt : Le B (aT K (ds.map (aD K))) := l.trans (le_ST.trans le_DT)
    refine wt_test (wr_neI (wr_len (wr_var (A := B) rfl ⟨_, hl_T lt, _, le_rfl, wr_int ⟨_, le_rfl, _, le_rfl, fun h3 => ?_, fun h3 => ?_⟩⟩)))
    · refine ws_ret (wr_bl (K := K) ?_)
      have : seatB cols.length p.w (.tuple ds) = false := by
        match ds, h3 with
        | [], _ => rfl
        | [_], _ => rfl
        | [_, _], h3 => simp at h3
        | _ :: _ :: _ :: _, _ => rfl
      rw [this] at k
      exact k
    · refine ws_next ?_
      match ds, h3, lt, k with
      | [], h3, _, _ => simp at h3
      | [_], h3, _, _ => simp at h3
      | _ :: _ :: _ :: _, h3, _, _ => simp at h3; omega
      | [a, b], _, lt, k =>
        refine ws_ret (wr_andV (wr_place (wr_ixT (wr_var (A := B) rfl ⟨_, lt, wr_int ⟨0, aD K a, le_rfl, rfl, a, le_DS, wr_lenOwn (wr_fld (wr_var (A := A) rfl ⟨_, (hf_wS WC).le lA, ii_O, cols.length, ⟨_, p, cols, rfl, le_rfl, le_rfl⟩, by omega, _, le_rfl, _, le_rfl, fun h4 => ?_, fun h4 => ?_⟩))⟩⟩))))
        · refine wr_place (wr_ixT (wr_var (A := B) rfl ⟨_, lt, wr_int ⟨1, aD K b, le_rfl, rfl, b, le_DS, wr_fld (wr_fld (wr_fld (wr_var (A := A) rfl ⟨_, (hf_wS WC).le lA, _, hf_sF SC, _, hf_W FC, _, le_rfl, ?_⟩)))⟩⟩))
          have e : seatB cols.length p.w (.tuple [a, b]) = placeD b p.w := by
            show (placeD a _ && placeD b _) = _
            rw [h4]
            rfl
          rw [e] at k
          exact k
        · have e : seatB cols.length p.w (.tuple [a, b]) = false := by
            show (placeD a _ && placeD b _) = _
            rw [h4]
            rfl
          rw [e] at k
          exact k
theorem seatB_pr {n w : Nat} {s : Pr} : seatB n (w : Int) (pairD s) = decide ((0 ≤ s.1 ∧ s.1 < (n : Int)) ∧ 0 ≤ s.2 ∧ s.2 < (w : Int)) := by
  show (decide _ && decide _) = _
  rw [← Bool.decide_and]
/-! ### _at -/
def atL (n : Nat) (ring : Bool) (k : Int) : List Int := if ring = true then [k % (n : Int)] else if 0 ≤ k ∧ k < (n : Int) then [k] else []
def pAt (K : PySem.W.Frag) (Cs : Cl) : SpP := fun As Φ => ∃ A B p cols ring k, As = [A, B] ∧ Le A (aW K Cs p cols ring) ∧ Le B (aI K k) ∧ 0 < cols.length ∧ cols.length ≤ 1000 ∧ Φ (aL ((atL cols.length ring k).map (aI K)))
theorem pure_at (SC : StCls K Cs.S) (WC : WbCls K Cs.W) : ∀ vs H Q E, spW (pAt K Cs) vs H Q E → t_at K Cs (pLen K Cs) { nx := fun _ H' => Q .non H', rt := Q } (L2.start N_at vs) H := fn_W (K := K) fun As Φ ⟨A, B, p, cols, ring, i, hA, lA, lB, h0, hl, k⟩ => by
  subst hA
  refine ⟨1, rfl, ?_⟩
  unfold t_at
  refine ws_seq (ws_asg (wr_lenOwn (wr_fld (wr_var (A := A) rfl ⟨_, (hf_wS WC).le lA, ii_O, cols.length, ⟨_, p, cols, rfl, le_rfl, le_rfl⟩, by omega, ?_⟩))))
  refine ws_seq (ws_if (wt_B (wr_fld (wr_var (A := A) rfl ⟨_, (hf_wC WC).le lA, ring, le_rfl, fun h => ?_, fun h => ?_⟩))))
  · refine ws_ret (wr_lst (wa_cons (wr_iC (g := fun i j => .int (i % j)) (fun _ _ _ => .int _) (wr_var (A := B) rfl ⟨i, lB, wr_var rfl ⟨_, le_rfl, by omega, wa_nil ⟨by simp, ?_⟩⟩⟩))))
    unfold atL at k
    rw [if_pos h] at k
    exact k
  · refine ws_next (ws_ret (wr_if (wt_test (wr_chain (wr_int ⟨0, le_rfl, wr_var (A := B) rfl ⟨i, lB, fun z => wr_var rfl ⟨_, le_rfl, _, le_rfl, fun z2 => ?_, fun z2 => ?_⟩, fun z => ⟨false, le_rfl, fun y => (nomatch y), fun _ => ?_⟩⟩⟩)))))
    · refine wr_lst (wa_cons (wr_less (wr_var (A := B) rfl ⟨_, lB, wa_nil ⟨by simp, ?_⟩⟩)))
      unfold atL at k
      rw [if_neg (by rw [h]; simp), if_pos ⟨of_decide_eq_true z, of_decide_eq_true z2⟩] at k
      exact k
    · refine wr_lst (wa_nil ⟨by simp, ?_⟩)
      unfold atL at k
      rw [if_neg (by rw [h]; simp), if_neg fun y => of_decide_eq_false z2 y.2] at k
      exact k
    · refine wr_lst (wa_nil ⟨by simp, ?_⟩)
      unfold atL at k
      rw [if_neg (by rw [h]; simp), if_neg fun y => of_decide_eq_false z y.1] at k
      exact k
/-! ### cell -/
def pCellAt (K : PySem.W.Frag) (Cs : Cl) : SpP := fun As Φ => ∃ A B p cols ring, ∃ (a b : Nat) (cl : List Cell) (x : Cell), As = [A, B] ∧ Le A (aW K Cs p cols ring) ∧ cols.length ≤ 1000 ∧ Le B (aD K (pairD ((a : Int), (b : Int)))) ∧ cols[a]? = some cl ∧ cl[b]? = some x ∧ (b : Int) < p.w ∧ Φ (aD K (cellD x))
theorem pure_wCell (SC : StCls K Cs.S) (WC : WbCls K Cs.W) : ∀ vs H Q E, spW (pCellAt K Cs) vs H Q E → t_wCell K Cs (pSeat K Cs) (pCols K Cs) { nx := fun _ H' => Q .non H', rt := Q } (L2.start N_wCell vs) H := fn_W (K := K) fun As Φ ⟨A, B, p, cols, ring, a, b, cl, x, hA, lA, hl, lB, hcl, hx, hb, k⟩ => by
  subst hA
  refine ⟨2, rfl, ?_⟩
  unfold t_wCell
  have ha := (List.getElem?_eq_some_iff.mp hcl).1
  have hs : seatB cols.length p.w (pairD ((a : Int), (b : Int))) = true := by
    show (placeD _ _ && placeD _ _) = true
    rw [Bool.and_eq_true]
    exact ⟨decide_eq_true ⟨by omega, by omega⟩, decide_eq_true ⟨by omega, hb⟩⟩
  refine ws_seq (ws_if (wt_not (wt_B (K := K) (wr_meth (wr_var (A := A) rfl ⟨(io_O (by show ("is_seat" : Str) ∉ [("stretch" : Str), ("closed" : Str)]; decide)).le lA, wa_cons (wr_var (A := B) rfl (wa_nil ⟨A, B, p, cols, ring, _, rfl, lA, hl, lB.trans le_DS, true, by rw [hs]; exact le_rfl, fun z => (nomatch z), fun _ => ws_next ?_⟩))⟩)))))
  refine ws_seq (ws_asgT (wr_var (A := B) rfl (wg_tup (S := [2, 3]) ⟨_, lB.trans le_pr', rfl, wgs_cons (fun _ => rfl) (wgs_cons (fun _ => rfl) (wgs_nil ?_))⟩)))
  refine ws_ret (wr_ixT (wr_ixL (wr_prop (wr_fld (wr_var (A := A) rfl ⟨_, (hf_wS WC).le lA, ii_O, _, p, cols, rfl, le_rfl, _, le_LQ, wr_var rfl ⟨a, aD K (colD cl), le_rfl, ?_, cl.map (fun y => aD K (cellD y)), ?_, wr_var rfl ⟨b, _, le_rfl, ?_, k⟩⟩⟩)))))
  · rw [List.getElem?_map, List.getElem?_map, hcl]
    rfl
  · have z := le_DT (K := K) (ds := cl.map cellD)
    rw [List.map_map] at z
    exact z
  · rw [List.getElem?_map, hx]
    rfl
end
end G.J

set_option maxHeartbeats 400000
/-! Webs: lists of seats, neighbours. -/
namespace G.J
open PySem PySem.Spec PyProof.Rows L2 Tp G
/-! ### what no list leans on is seen without them -/
section
variable {K : PySem.W.Frag} {H : Hp} {O : List Addr}
theorem sqt_hid (out : ∀ p ∈ O, Hid H p) {a : Addr} {xs : List V} (h : SqT K H a xs) : SqT K (dels O H) a xs := by
  have nin : ∀ o, H a = some o → ¬ IsH o → a ∉ O := fun o e n z => by
    obtain ⟨o', e', i⟩ := out a z
    rw [e] at e'
    cases e'
    exact n i
  rcases h with (h | ⟨o, h⟩) | h
  · exact .inl (.inl (by rw [dels_out (nin _ h fun z => by rcases z with ⟨_, z⟩ | ⟨_, z⟩ | ⟨_, z⟩ | ⟨_, _, _, z⟩ <;> cases z)]; exact h))
  · exact .inl (.inr ⟨o, by rw [dels_out (nin _ h fun z => by rcases z with ⟨_, z⟩ | ⟨_, z⟩ | ⟨_, z⟩ | ⟨_, _, _, z⟩ <;> cases z)]; exact h⟩)
  · exact .inr h
mutual
theorem dp_hid (out : ∀ p ∈ O, Hid H p) : ∀ (d : PyData) (v : V), noL d = true → Dp K H v d → Dp K (dels O H) v d
  | .none, _, _, h => by cases h; exact .non
  | .bool b, _, _, h => by cases h; exact .bl b
  | .int i, _, _, h => by cases h; exact .int i
  | .str x, _, _, h => by cases h; exact .str x
  | .list ds, _, n, _ => by simp [noL] at n
  | .tuple ds, _, n, h => by
    cases h with
    | tup hs ha => exact .tup (sqt_hid out hs) (dpAll_hid out ds _ (by simpa [noL] using n) ha)
  | .dict _, _, _, h => by cases h
theorem dpAll_hid (out : ∀ p ∈ O, Hid H p) : ∀ (ds : List PyData) (vs : List V), noL.noLs ds = true → DpAll K H vs ds → DpAll K (dels O H) vs ds
  | [], _, _, h => by cases h; exact .nil
  | d :: ds, _, n, h => by
    cases h with
    | cons h1 h2 =>
      have n : noL d = true ∧ noL.noLs ds = true := by simpa [noL.noLs] using n
      exact .cons (dp_hid out d _ n.1 h1) (dpAll_hid out ds _ n.2 h2)
end
end
section
variable {K : PySem.W.Frag} {Cs : Cl} {Γ : List SK} {te ta tb : TE} {Φ : AV → Prop} {Ψ : OC → Prop}
abbrev NotFr (m : Str) : Prop := m ≠ "width" ∧ m ≠ "inner" ∧ m ≠ "outer"
theorem frF_none {m : Str} (h : NotFr m) {w : Int} {vi vo : V} : (frF w vi vo).lookup m = none := by
  obtain ⟨h1, h2, h3⟩ := h
  have e1 : (m == ("width" : Str)) = false := beq_false_of_ne h1
  have e2 : (m == ("inner" : Str)) = false := beq_false_of_ne h2
  have e3 : (m == ("outer" : Str)) = false := beq_false_of_ne h3
  unfold frF
  rw [List.lookup_cons, e1]
  show List.lookup m _ = none
  rw [List.lookup_cons, e2]
  show List.lookup m _ = none
  rw [List.lookup_cons, e3]
  rfl
theorem io_F {CF : Addr} {p : Plan} {m : Str} (h : NotFr m) : IsObj (aF K CF p) CF m := fun v H ⟨x, e, dx, vi, vo, h1, _, _⟩ => ⟨x, dx, _, e, h1, frF_none h⟩
theorem noL_ints (l : List Int) : noL (tupI l) = true := by
  show noL.noLs (l.map PyData.int) = true
  exact noLs_all.mpr fun d hd => by
    obtain ⟨i, _, rfl⟩ := List.mem_map.mp hd
    rfl
theorem le_ints {l : List Int} : Le (aD K (tupI l)) (aT K (l.map (aI K))) := by
  have z := le_DT (K := K) (ds := l.map PyData.int)
  rw [List.map_map] at z
  exact z
/-- rows that a frame tells -/
theorem wr_row {CF : Addr} {m : Str} {tell : Plan → Int → List Int} (hm : NotFr m) (h : WR Γ te fun A => ∃ p, Le A (aF K CF p) ∧ p.inn.length ≤ 100 ∧ p.out.length ≤ 100 ∧ WR Γ ta fun B => ∃ r, Le B (aI K r) ∧ Φ (aD K (tupI (tell p r)))) :
    WR Γ (tMeth CF m (spRow K CF tell) [] E0 te (tCons ta tNil)) Φ := fun O0 H0 σ H e Q q =>
  h O0 H0 σ H e _ fun A ⟨p, la, l1, l2, hb⟩ v H1 g pv => by
    have la' := la _ _ (av_up pv)
    obtain ⟨a, dx, fs, rfl, ha, hf⟩ := io_F (K := K) hm _ _ la'
    obtain ⟨x, ex, hx⟩ := la'
    refine ⟨a, dx, fs, rfl, ha, hf, hb O0 H0 σ H1 (e.grow g) _ fun B ⟨r, lb, k⟩ w H2 g2 p2 => ?_⟩
    refine ⟨x, p, r, by rw [ex, dp_int (lb _ _ p2)]; rfl, hx.grow g2, l1, l2, fun u H3 g3 hu => q _ k u H3 ((g.trans g2).trans g3) ?_⟩
    exact dp_hid (fun p hp => ((((e.grow g).grow g2).grow g3).there hp)) _ _ (noL_ints _) hu
/-- len(set(xs)) == len(xs) -/
theorem wr_lenSetEq {i : Nat} {A : AV} {l : List Pr} (h : Γ[i]? = some (.is A)) (hA : Le A (aD K (.list (l.map pairD)))) (hl : l.length < 64) (k : Φ (aB K (decide l.Nodup))) : WR Γ (tOp rEq (tLenSetT K (tVar i)) (tCB (Tp.rLen K) (tCons (tVar i) tNil))) Φ := fun O0 H0 σ H e Q q => by
  obtain ⟨v, h1, h2⟩ := e.is h
  have hv : PS2 K none (l.map pairD) v H := .inr (hA _ _ (av_up h2))
  exact em_lenEq hl (em_vP grows_PS2 h1 hv) (em_vP grows_PS2 h1 hv) H (Gr.refl H) Q fun u H2 g2 ev => by
    subst ev
    exact q _ k _ H2 g2 (.bl _)
/-- sorted pairs -/
theorem fr_sortP (h : WR Γ te fun A => ∃ l a : List Pr, (Le A (aQ K (aPrs K l)) ∨ Le A (aT K (aPrs K l))) ∧ l.length < 64 ∧ Asc a ∧ l.Perm a ∧ Ψ (oL (aPrs K a))) : FR Γ (tCB (rSortTT K 2 64) (tCons te tNil)) Ψ := fun O0 H0 σ H e Q q =>
  h O0 H0 σ H e _ fun A ⟨l, a, la, hl, ha, pm, k⟩ v H2 e2 pv => by
    have bd : ∀ p ∈ l, (0 ≤ p.1 ∧ p.1 < 64) ∧ 0 ≤ p.2 ∧ p.2 < 64 := fun p hp => ha.2 p (pm.mem_iff.mp hp)
    have fin : ∀ (b : Addr) (xs : List V), v = .ref b → (SqL K H2 b xs ∨ SqT K H2 b xs) → DpAll K (cut O0 Γ H2) xs (l.map pairD) → rSortTT K 2 64 [v] H2 Q := fun b xs ev hs hx => by
      subst ev
      refine ⟨b, xs, rfl, hs, by rw [dpAll_len hx, List.length_map]; exact hl, fun x hm => ?_, fun ys p py pw hp => ?_⟩
      · obtain ⟨i, hi, ei⟩ := List.mem_iff_getElem.mp hm
        obtain ⟨d, hd, dx⟩ := dpAll_get hx (show xs[i]? = some x by rw [List.getElem?_eq_getElem hi, ei])
        obtain ⟨r, hr, rfl⟩ := List.mem_map.mp (List.mem_of_getElem? hd)
        have rx : ∃ a, x = .ref a := by cases dx; exact ⟨_, rfl⟩
        obtain ⟨c', rfl⟩ := rx
        refine ⟨_, tupI_of (dp_gr gr_dels1 _ _ dx), rfl, fun m hm => ?_⟩
        have z := bd r hr
        rcases List.mem_cons.mp hm with rfl | hm
        · exact z.1
        · rw [List.mem_singleton.mp hm]
          exact z.2
      · obtain ⟨m, pm2, hm⟩ := perm_pairs hx py
        have nd : m.Nodup := (pm2.trans pm).nodup_iff.mpr (asc_nodup ha)
        have as := asc_of_code (dpAll_gr gr_dels1 _ _ hm) pw nd fun p hp => bd p (pm2.mem_iff.mp hp)
        have e3 := asc_unique as ha.1 (pm2.trans pm)
        rw [e3] at hm
        refine q _ k p _ H2 e2 hp ⟨ys, rfl, ?_⟩
        have hm' := allV_D.mpr hm
        rw [List.map_map] at hm'
        exact hm'
    have conv : ∀ {xs : List V} {H : Hp}, AllV (aPrs K l) xs H → DpAll K H xs (l.map pairD) := fun {xs H} h => allV_D.mp (by rw [List.map_map]; exact h)
    rcases la with la | la
    · obtain ⟨b, xs, rfl, hs, hx⟩ := la _ _ pv
      exact fin _ _ rfl (.inl (gr_dels1.sql hs)) (conv hx)
    · obtain ⟨b, xs, rfl, hs, hx⟩ := la _ _ pv
      exact fin _ _ rfl (.inr (gr_dels1.sqt hs)) (conv hx)
/-! ### are_seats -/
def isListD : PyData → Bool
  | .list _ => true
  | _ => false
theorem sub_list (d : PyData) : subTy (tyD d) "list" = isListD d := by cases d <;> rfl
def areB (n : Nat) (w : Int) (d : PyData) : Bool := match d with
  | .list ds => ds.all (seatB n w) && decide (ds.map toPr).Nodup
  | _ => false
theorem seat_of {d : PyData} {n : Nat} {w : Int} (h : seatB n w d = true) : d = pairD (toPr d) := by
  unfold seatB at h
  split at h
  · rename_i a b
    rw [Bool.and_eq_true] at h
    obtain ⟨h1, h2⟩ := h
    cases a <;> first | cases h1 | skip
    cases b <;> first | cases h2 | skip
    rfl
  · cases h
theorem seats_of : ∀ {ds : List PyData} {n : Nat} {w : Int}, ds.all (seatB n w) = true → ds = (ds.map toPr).map pairD
  | [], _, _, _ => rfl
  | d :: ds, n, w, h => by
    rw [List.all_cons, Bool.and_eq_true] at h
    show d :: ds = pairD (toPr d) :: (ds.map toPr).map pairD
    rw [← seats_of h.2, ← seat_of h.1]
def pAre (K : PySem.W.Frag) (Cs : Cl) : SpP := fun As Φ => ∃ A B p cols ring d, As = [A, B] ∧ Le A (aW K Cs p cols ring) ∧ cols.length ≤ 1000 ∧ Le B (aS K d) ∧ (∀ ds, d = .list ds → ds.length < 64) ∧ Φ (aB K (areB cols.length p.w d))
theorem pure_areSeats (KT : KitTy K) : ∀ vs H Q E, spW (pAre K Cs) vs H Q E → t_areSeats K Cs (pSeat K Cs) { nx := fun _ H' => Q .non H', rt := Q } (L2.start N_areSeats vs) H := fn_W (K := K) fun As Φ ⟨A, B, p, cols, ring, d, hA, lA, hl, l, hd, k⟩ => by
  subst hA
  refine ⟨1, rfl, ?_⟩
  unfold t_areSeats
  refine ws_seq (ws_if (wt_not (wt_B (wr_isiD KT (by simp) (wr_var (A := B) rfl ⟨d, l, _, le_rfl, fun h1 => ?_, fun h1 => ?_⟩)))))
  · refine ws_ret (wr_bl (K := K) ?_)
    have : areB cols.length p.w d = false := by
      rw [sub_list] at h1
      cases d <;> first | rfl | cases h1
    rw [this] at k
    exact k
  · have h2 : isListD d = true := by
      rw [sub_list] at h1
      simpa using h1
    obtain ⟨ds, rfl⟩ : ∃ ds, d = .list ds := by cases d <;> first | exact ⟨_, rfl⟩ | cases h2
    have lL : Le B (aD K (.list ds)) := l.trans le_SL
    refine ws_next (ws_ret (wr_andV (K := K) (wr_all (wr_L (fr_map (X := PyData) (S := [2]) (by simp) rfl (wi_list (wr_var (A := B) rfl ⟨_, lL.trans le_DQ, ds, aD K, fun d => aB K (seatB cols.length p.w d), rfl, by have := hd ds rfl; omega, fun x hx => ?_, ?_⟩)))))))
    · refine wg_name ⟨rfl, wr_meth (wr_var (A := A) rfl ⟨(io_O (by show ("is_seat" : Str) ∉ [("stretch" : Str), ("closed" : Str)]; decide)).le lA, wa_cons (wr_var (A := aD K x) rfl (wa_nil ⟨A, _, p, cols, ring, x, rfl, lA, hl, le_DS, le_rfl⟩))⟩)⟩
    · refine ⟨_, fun _ _ z => z, ds.map (seatB cols.length p.w), ?_, _, le_rfl, fun h => ?_, fun h => ?_⟩
      · rw [List.map_map]
        exact le_LQ
      · have ha : ds.all (seatB cols.length p.w) = true := by
          rw [List.all_map] at h
          exact h
        have eds := seats_of ha
        have : areB cols.length p.w (.list ds) = decide (ds.map toPr).Nodup := by
          show (_ && _) = _
          rw [ha]
          rfl
        rw [this] at k
        exact wr_lenSetEq (A := B) rfl (l := ds.map toPr) (by rw [← eds]; exact lL) (by rw [List.length_map]; exact hd ds rfl) k
      · have ha : ds.all (seatB cols.length p.w) = false := by
          rw [List.all_map] at h
          exact h
        have : areB cols.length p.w (.list ds) = false := by
          show (_ && _) = _
          rw [ha]
          rfl
        rw [this] at k
        exact k
end
end G.J

set_option maxHeartbeats 400000
/-! Webs: neighbours. -/
namespace G.J
open PySem PySem.Spec PyProof.Rows L2 Tp G
theorem mem_grid {n w : Nat} {s : Pr} : s ∈ gridP n w ↔ (0 ≤ s.1 ∧ s.1 < (n : Int)) ∧ 0 ≤ s.2 ∧ s.2 < (w : Int) := by
  unfold gridP
  rw [List.mem_flatMap]
  constructor
  · rintro ⟨a, ha, h⟩
    obtain ⟨b, hb, rfl⟩ := List.mem_map.mp h
    have := List.mem_range.mp ha
    have := List.mem_range.mp hb
    simp
    omega
  · rintro ⟨⟨h1, h2⟩, h3, h4⟩
    refine ⟨s.1.toNat, List.mem_range.mpr (by omega), List.mem_map.mpr ⟨s.2.toNat, List.mem_range.mpr (by omega), ?_⟩⟩
    rw [Int.toNat_of_nonneg h1, Int.toNat_of_nonneg h3]
theorem grid_up (n w : Nat) : (gridP n w).Pairwise ltP := by
  induction n with
  | zero => simp [gridP]
  | succ n ih =>
    rw [gridP_succ]
    refine List.pairwise_append.mpr ⟨ih, ?_, fun s hs t ht => ?_⟩
    · rw [List.pairwise_map]
      exact List.pairwise_lt_range.imp fun h => .inr ⟨rfl, by show (_ : Int) < _; omega⟩
    · obtain ⟨b, _, rfl⟩ := List.mem_map.mp ht
      have := (mem_grid.mp hs).1.2
      exact .inl this
theorem grid_nd (n w : Nat) : (gridP n w).Nodup := (grid_up n w).imp fun {a b} h z => by
  subst z
  exact ltP_irrefl _ h
theorem asc_filter {n w : Nat} (hn : n ≤ 63) (hw : w ≤ 63) (q : Pr → Bool) : Asc ((gridP n w).filter q) := by
  refine ⟨(grid_up n w).sublist List.filter_sublist, fun s hs => ?_⟩
  have := mem_grid.mp (List.mem_filter.mp hs).1
  omega
theorem nodup_map {α β : Type} {f : α → β} {l : List α} (nd : l.Nodup) (h : ∀ x ∈ l, ∀ y ∈ l, f x = f y → x = y) : (l.map f).Nodup := by
  rw [List.Nodup, List.pairwise_map]
  exact List.Pairwise.imp_of_mem (fun {a b} ha hb n z => n (h a ha b hb z)) nd
theorem nd_back {l : List Pr} (nd : l.Nodup) (r : Int) : (backL l r).Nodup := nodup_map (nd.filter _) fun x hx y hy e => by
  have h1 := of_decide_eq_true (List.mem_filter.mp hx).2
  have h2 := of_decide_eq_true (List.mem_filter.mp hy).2
  exact Prod.ext e (by rw [h1, h2])
theorem nd_on {l : List Pr} (nd : l.Nodup) (r : Int) : (onL l r).Nodup := nodup_map (nd.filter _) fun x hx y hy e => by
  have h1 := of_decide_eq_true (List.mem_filter.mp hx).2
  have h2 := of_decide_eq_true (List.mem_filter.mp hy).2
  exact Prod.ext (by rw [h1, h2]) e
theorem mem_back {l : List Pr} {r x : Int} : x ∈ backL l r ↔ (x, r) ∈ l := by
  unfold backL
  rw [List.mem_map]
  constructor
  · rintro ⟨⟨a, b⟩, hs, rfl⟩
    obtain ⟨h1, h2⟩ := List.mem_filter.mp hs
    have h2 := of_decide_eq_true h2
    simp at h2
    rw [← h2]
    exact h1
  · intro h
    exact ⟨(x, r), List.mem_filter.mpr ⟨h, by simp⟩, rfl⟩
theorem mem_on {l : List Pr} {r x : Int} : x ∈ onL l r ↔ (r, x) ∈ l := by
  unfold onL
  rw [List.mem_map]
  constructor
  · rintro ⟨⟨a, b⟩, hs, rfl⟩
    obtain ⟨h1, h2⟩ := List.mem_filter.mp hs
    have h2 := of_decide_eq_true h2
    simp at h2
    rw [← h2]
    exact h1
  · intro h
    exact ⟨(r, x), List.mem_filter.mpr ⟨h, by simp⟩, rfl⟩
/-- what is asked of a frame's plan -/
structure POk (p : Plan) (w : Nat) : Prop where
  hw : p.w = (w : Int)
  lo : 1 ≤ w
  hi : w ≤ 3
  ni : p.inn.Nodup
  no : p.out.Nodup
  ii : ∀ s ∈ p.inn, 0 ≤ s.1 ∧ s.1 < s.2 ∧ s.2 < (w : Int)
  oo : ∀ s ∈ p.out, (0 ≤ s.1 ∧ s.1 < (w : Int)) ∧ 0 ≤ s.2 ∧ s.2 < (w : Int)
  li : p.inn.length ≤ 9
  lo' : p.out.length ≤ 9
theorem Plan.Ok.pok {p : Plan} (h : p.Ok) : ∃ w, POk p w := by
  have ⟨s1, s2⟩ := ok_small h
  obtain ⟨w, h1, h2, h3, h4, h5⟩ := h
  refine ⟨w, h1, h2, h3, (grid_nd w w).sublist (h4.trans List.filter_sublist), (grid_nd w w).sublist h5, fun s hs => ?_, fun s hs => ?_, by omega, by omega⟩
  · obtain ⟨m1, m2⟩ := List.mem_filter.mp (h4.subset hs)
    have := mem_grid.mp m1
    have := of_decide_eq_true m2
    omega
  · have := mem_grid.mp (h5.subset hs)
    omega
def nbL (p : Plan) (n : Nat) (ring : Bool) (a b : Int) : List Pr :=
  ((besideL p.inn b).map fun o => (a, o)) ++ ((atL n ring (a - 1)).flatMap fun c => (backL p.out b).map fun o => (c, o)) ++ ((atL n ring (a + 1)).flatMap fun c => (onL p.out b).map fun o => (c, o))
def nearL (p : Plan) (w n : Nat) (ring : Bool) (a b : Int) : List Pr := (gridP n w).filter fun s => decide (s ∈ nbL p n ring a b)
theorem at_one (n : Nat) (ring : Bool) (k : Int) : (atL n ring k).length ≤ 1 := by
  unfold atL
  split
  · simp
  · split <;> simp
theorem few_pos {n : Nat} {ring : Bool} (h : few ring ≤ n) : 0 < n ∧ (ring = true → 3 ≤ n) := by
  unfold few at h
  split at h
  · exact ⟨by omega, fun _ => h⟩
  · rename_i q
    exact ⟨h, fun z => absurd z q⟩
theorem mod_down {n : Nat} {a : Int} (h0 : 0 ≤ a) (h1 : a < n) (hn : 0 < n) : (a - 1) % (n : Int) = if a = 0 then (n : Int) - 1 else a - 1 := by
  split
  · rename_i z
    subst z
    have : ((0 : Int) - 1) % (n : Int) = ((0 : Int) - 1 + n) % (n : Int) := by rw [Int.add_emod_right]
    rw [this]
    have : ((0 : Int) - 1 + n) = (n : Int) - 1 := by omega
    rw [this]
    exact Int.emod_eq_of_lt (by omega) (by omega)
  · exact Int.emod_eq_of_lt (by omega) (by omega)
theorem mod_up {n : Nat} {a : Int} (h0 : 0 ≤ a) (h1 : a < n) (hn : 0 < n) : (a + 1) % (n : Int) = if a + 1 = (n : Int) then 0 else a + 1 := by
  split
  · rename_i z
    rw [z]
    exact Int.emod_self
  · exact Int.emod_eq_of_lt (by omega) (by omega)
/-- the columns beside one -/
theorem at_down {n : Nat} {ring : Bool} {a c : Int} (hf : few ring ≤ n) (h0 : 0 ≤ a) (h1 : a < n) : c ∈ atL n ring (a - 1) ↔ (c = a - 1 ∧ 0 < a) ∨ (ring = true ∧ a = 0 ∧ c = (n : Int) - 1) := by
  obtain ⟨n0, n3⟩ := few_pos hf
  unfold atL
  cases ring with
  | true =>
    rw [if_pos rfl, mod_down h0 h1 n0, List.mem_singleton]
    split <;> simp <;> omega
  | false =>
    rw [if_neg (by simp)]
    split
    · rw [List.mem_singleton]
      simp
      omega
    · simp
      omega
theorem at_up {n : Nat} {ring : Bool} {a c : Int} (hf : few ring ≤ n) (h0 : 0 ≤ a) (h1 : a < n) : c ∈ atL n ring (a + 1) ↔ (c = a + 1 ∧ a + 1 < (n : Int)) ∨ (ring = true ∧ a + 1 = (n : Int) ∧ c = 0) := by
  obtain ⟨n0, n3⟩ := few_pos hf
  unfold atL
  cases ring with
  | true =>
    rw [if_pos rfl, mod_up h0 h1 n0, List.mem_singleton]
    split <;> simp <;> omega
  | false =>
    rw [if_neg (by simp)]
    split
    · rw [List.mem_singleton]
      simp
      omega
    · simp
      omega
theorem mem_nb {p : Plan} {n : Nat} {ring : Bool} {a b : Int} {s : Pr} : s ∈ nbL p n ring a b ↔ (s.1 = a ∧ ((s.2, b) ∈ p.inn ∨ (b, s.2) ∈ p.inn)) ∨ (s.1 ∈ atL n ring (a - 1) ∧ (s.2, b) ∈ p.out) ∨ (s.1 ∈ atL n ring (a + 1) ∧ (b, s.2) ∈ p.out) := by
  obtain ⟨x, y⟩ := s
  unfold nbL besideL
  simp only [List.mem_append, List.mem_map, List.mem_flatMap, mem_back, mem_on, Prod.mk.injEq]
  constructor
  · rintro ((⟨o, ho, rfl, rfl⟩ | ⟨c, hc, o, ho, rfl, rfl⟩) | ⟨c, hc, o, ho, rfl, rfl⟩)
    · exact .inl ⟨rfl, ho⟩
    · exact .inr (.inl ⟨hc, ho⟩)
    · exact .inr (.inr ⟨hc, ho⟩)
  · rintro (⟨rfl, h⟩ | ⟨h1, h2⟩ | ⟨h1, h2⟩)
    · exact .inl (.inl ⟨y, h, rfl, rfl⟩)
    · exact .inl (.inr ⟨x, h1, y, h2, rfl, rfl⟩)
    · exact .inr ⟨x, h1, y, h2, rfl, rfl⟩
theorem nd_flat {l : List Int} {m : List Int} (hl : l.length ≤ 1) (hm : m.Nodup) : (l.flatMap fun c => m.map fun o => ((c, o) : Pr)).Nodup := by
  match l, hl with
  | [], _ => simp
  | [c], _ =>
    simp only [List.flatMap_cons, List.flatMap_nil, List.append_nil]
    exact nodup_map hm fun x _ y _ e => (Prod.mk.inj e).2
  | _ :: _ :: _, hl => simp at hl
theorem nd_nb {p : Plan} {w n : Nat} {ring : Bool} {a b : Int} (ok : POk p w) (hf : few ring ≤ n) (h0 : 0 ≤ a) (h1 : a < n) : (nbL p n ring a b).Nodup := by
  obtain ⟨n0, n3⟩ := few_pos hf
  unfold nbL
  rw [List.nodup_append]
  refine ⟨?_, nd_flat (at_one _ _ _) (nd_on ok.no b), fun s hs t ht => ?_⟩
  · rw [List.nodup_append]
    refine ⟨nodup_map ?_ fun x _ y _ e => (Prod.mk.inj e).2, nd_flat (at_one _ _ _) (nd_back ok.no b), fun s hs t ht => ?_⟩
    · unfold besideL
      rw [List.nodup_append]
      refine ⟨nd_back ok.ni b, nd_on ok.ni b, fun x hx y hy e => ?_⟩
      have z1 := ok.ii _ (mem_back.mp hx)
      have z2 := ok.ii _ (mem_on.mp hy)
      simp at z1 z2
      omega
    · obtain ⟨o, _, rfl⟩ := List.mem_map.mp hs
      obtain ⟨c, hc, ht⟩ := List.mem_flatMap.mp ht
      obtain ⟨o', _, rfl⟩ := List.mem_map.mp ht
      have z := (at_down hf h0 h1).mp hc
      intro e
      have e := (Prod.mk.inj e).1
      rcases z with z | ⟨zr, z⟩
      · omega
      · have := n3 zr
        omega
  · obtain ⟨c, hc, ht⟩ := List.mem_flatMap.mp ht
    obtain ⟨o', _, rfl⟩ := List.mem_map.mp ht
    have z := (at_up hf h0 h1).mp hc
    intro e
    subst e
    rcases List.mem_append.mp hs with hs | hs
    · obtain ⟨o, _, e⟩ := List.mem_map.mp hs
      have e := (Prod.mk.inj e).1
      rcases z with z | ⟨zr, z⟩
      · omega
      · have := n3 zr
        omega
    · obtain ⟨c', hc', ht⟩ := List.mem_flatMap.mp hs
      obtain ⟨o, _, e⟩ := List.mem_map.mp ht
      have e := (Prod.mk.inj e).1
      have z' := (at_down hf h0 h1).mp hc'
      rcases z with z | ⟨zr, z⟩
      · rcases z' with z' | ⟨zr, z'⟩
        · omega
        · have := n3 zr
          omega
      · have := n3 zr
        rcases z' with z' | ⟨_, z'⟩ <;> omega
theorem nb_grid {p : Plan} {w n : Nat} {ring : Bool} {a b : Int} {s : Pr} (ok : POk p w) (hf : few ring ≤ n) (h0 : 0 ≤ a) (h1 : a < n) (h : s ∈ nbL p n ring a b) : s ∈ gridP n w := by
  obtain ⟨n0, n3⟩ := few_pos hf
  rw [mem_grid]
  rcases mem_nb.mp h with ⟨e, h | h⟩ | ⟨hc, h⟩ | ⟨hc, h⟩
  · have := ok.ii _ h
    simp at this
    omega
  · have := ok.ii _ h
    simp at this
    omega
  · have := ok.oo _ h
    simp at this
    have z := (at_down hf h0 h1).mp hc
    omega
  · have := ok.oo _ h
    simp at this
    have z := (at_up hf h0 h1).mp hc
    omega
theorem nb_perm {p : Plan} {w n : Nat} {ring : Bool} {a b : Int} (ok : POk p w) (hf : few ring ≤ n) (h0 : 0 ≤ a) (h1 : a < n) : (nbL p n ring a b).Perm (nearL p w n ring a b) := by
  unfold nearL
  rw [List.perm_ext_iff_of_nodup (nd_nb ok hf h0 h1) ((grid_nd n w).filter _)]
  intro s
  rw [List.mem_filter]
  exact ⟨fun h => ⟨nb_grid ok hf h0 h1 h, decide_eq_true h⟩, fun h => of_decide_eq_true h.2⟩
theorem back_len {l : List Pr} {r : Int} : (backL l r).length ≤ l.length := by
  unfold backL
  rw [List.length_map]
  exact List.length_filter_le _ _
theorem on_len {l : List Pr} {r : Int} : (onL l r).length ≤ l.length := by
  unfold onL
  rw [List.length_map]
  exact List.length_filter_le _ _
theorem flat1_len {l m : List Int} (hl : l.length ≤ 1) : (l.flatMap fun c => m.map fun o => ((c, o) : Pr)).length ≤ m.length := by
  match l, hl with
  | [], _ => simp
  | [c], _ => simp
  | _ :: _ :: _, hl => simp at hl
theorem nb_len {p : Plan} {w n : Nat} {ring : Bool} {a b : Int} (ok : POk p w) : (nbL p n ring a b).length < 64 := by
  have l1 := back_len (l := p.inn) (r := b)
  have l2 := on_len (l := p.inn) (r := b)
  have l3 := back_len (l := p.out) (r := b)
  have l4 := on_len (l := p.out) (r := b)
  have f1 := flat1_len (m := backL p.out b) (at_one n ring (a - 1))
  have f2 := flat1_len (m := onL p.out b) (at_one n ring (a + 1))
  have := ok.li
  have := ok.lo'
  unfold nbL besideL
  simp only [List.length_append, List.length_map]
  omega
section
variable {K : PySem.W.Frag} {Cs : Cl}
/-- a seat of the web -/
structure SeatOk (p : Plan) (n : Nat) (w : Nat) (a b : Nat) : Prop where
  a : a < n
  b : b < w
theorem seat_ok {p : Plan} {w n a b : Nat} (ok : POk p w) (ha : a < n) (hb : b < w) : seatB n p.w (pairD ((a : Int), (b : Int))) = true := by
  rw [ok.hw, seatB_pr]
  exact decide_eq_true ⟨⟨by simp, by simp; omega⟩, by simp, by simp; omega⟩
theorem le_besides {l : List Int} : Le (aD K (tupI l)) (aT K (l.map fun o => aI K o)) := le_ints
def pNear (K : PySem.W.Frag) (Cs : Cl) : SpFP := fun As Φ => ∃ A B p cols ring, ∃ (w a b : Nat), As = [A, B] ∧ Le A (aW K Cs p cols ring) ∧ POk p w ∧ few ring ≤ cols.length ∧ cols.length ≤ 63 ∧ Le B (aD K (pairD ((a : Int), (b : Int)))) ∧ a < cols.length ∧ b < w ∧ Φ (oL (aPrs K (nearL p w cols.length ring a b)))
theorem pure_near (SC : StCls K Cs.S) (WC : WbCls K Cs.W) : ∀ vs H Q E, spF (pNear K Cs) vs H Q E → t_near K Cs (pSeat K Cs) (pAt K Cs) { nx := fun _ H' => Q .non H', rt := Q } (L2.start N_near vs) H := fn_F fun As Φ ⟨A, B, p, cols, ring, w, a, b, hA, lA, ok, hf, hl, lB, ha, hb, k⟩ => by
  subst hA
  refine ⟨8, rfl, ?_⟩
  unfold t_near
  have hs := seat_ok ok ha hb
  have n0 := (few_pos hf).1
  have := ok.li
  have := ok.lo'
  have bl : ∀ r, (backL p.out r).length ≤ 1000 := fun r => by
    have := back_len (l := p.out) (r := r)
    omega
  have ol : ∀ r, (onL p.out r).length ≤ 1000 := fun r => by
    have := on_len (l := p.out) (r := r)
    omega
  refine ws_seq (ws_if (wt_not (wt_B (K := K) (wr_meth (wr_var (A := A) rfl ⟨(io_O (by show ("is_seat" : Str) ∉ [("stretch" : Str), ("closed" : Str)]; decide)).le lA, wa_cons (wr_var (A := B) rfl (wa_nil ⟨A, B, p, cols, ring, _, rfl, lA, by omega, lB.trans le_DS, true, by rw [hs]; exact le_rfl, fun z => (nomatch z), fun _ => ws_next ?_⟩))⟩)))))
  refine ws_seq (ws_asg (wr_fld (wr_fld (wr_var (A := A) rfl ⟨_, (hf_wS WC).le lA, _, hf_sF SC, ?_⟩))))
  refine ws_seq (ws_asgT (wr_var (A := B) rfl (wg_tup (S := [3, 4]) ⟨_, lB.trans le_pr', rfl, wgs_cons (fun _ => rfl) (wgs_cons (fun _ => rfl) (wgs_nil ?_))⟩)))
  show WS [.is A, .is B, .is (aF K Cs.F p), .is (aI K (a : Int)), .is (aI K (b : Int)), .any, .any, .any, .any, .any] _ _
  refine ws_seq (ws_asg (wr_L (fr_map (X := Int) (S := [8]) (by simp) rfl (wi_tup (wr_row (by decide) (wr_var rfl ⟨p, le_rfl, by omega, by omega, wr_var rfl ⟨_, le_rfl, _, le_besides, besideL p.inn b, _, fun o => aD K (pairD ((a : Int), o)), rfl, ?_, fun x hx => ?_, _, fun _ _ z => z, ?_⟩⟩))))))
  · have := back_len (l := p.inn) (r := (b : Int))
    have := on_len (l := p.inn) (r := (b : Int))
    unfold besideL
    rw [List.length_append]
    omega
  · exact wg_name ⟨rfl, wr_tup (wa_cons (wr_var rfl (wa_cons (wr_var rfl (wa_nil ⟨by simp, le_pr⟩)))))⟩
  show WS [.is A, .is B, .is (aF K Cs.F p), .is (aI K (a : Int)), .is (aI K (b : Int)), .is (aL ((besideL p.inn b).map fun o => aD K (pairD ((a : Int), o)))), .any, .any, .any, .any] _ _
  refine ws_seq (ws_asg (wr_L (fr_map2 (X := Int) (Y := Int) (S := [9]) (S1 := [8]) (by simp) (by simp) rfl (wi_list (wr_meth (wr_var (A := A) rfl ⟨(io_O (by show ("_at" : Str) ∉ [("stretch" : Str), ("closed" : Str)]; decide)).le lA, wa_cons (wr_sub (wr_var rfl ⟨_, le_rfl, wr_int ⟨_, le_rfl, wa_nil ⟨A, _, p, cols, ring, _, rfl, lA, le_rfl, n0, by omega,
    _, le_LQ, atL cols.length ring ((a : Int) - 1), fun _ => backL p.out b, _, fun _ o => aI K o, fun c o => aD K (pairD (c, o)), rfl, Nat.le_trans (at_one _ _ _) (by decide), fun _ _ => bl _, fun x hx => ?_, _, fun _ _ z => z, ?_⟩⟩⟩))⟩))))))
  · refine wg_name ⟨rfl, rfl, wi_tup (wr_row (by decide) (wr_var rfl ⟨p, le_rfl, by omega, by omega, wr_var rfl ⟨_, le_rfl, _, le_besides, rfl, fun y hy => wg_name ⟨rfl, ?_⟩⟩⟩))⟩
    exact wr_tup (wa_cons (wr_var rfl (wa_cons (wr_var rfl (wa_nil ⟨by simp, le_pr⟩)))))
  refine ws_seq (ws_asg (wr_L (fr_map2 (X := Int) (Y := Int) (S := [9]) (S1 := [8]) (by simp) (by simp) rfl (wi_list (wr_meth (wr_var (A := A) rfl ⟨(io_O (by show ("_at" : Str) ∉ [("stretch" : Str), ("closed" : Str)]; decide)).le lA, wa_cons (wr_add (wr_var rfl ⟨_, le_rfl, wr_int ⟨_, le_rfl, wa_nil ⟨A, _, p, cols, ring, _, rfl, lA, le_rfl, n0, by omega,
    _, le_LQ, atL cols.length ring ((a : Int) + 1), fun _ => onL p.out b, _, fun _ o => aI K o, fun c o => aD K (pairD (c, o)), rfl, Nat.le_trans (at_one _ _ _) (by decide), fun _ _ => ol _, fun x hx => ?_, _, fun _ _ z => z, ?_⟩⟩⟩))⟩))))))
  · refine wg_name ⟨rfl, rfl, wi_tup (wr_row (by decide) (wr_var rfl ⟨p, le_rfl, by omega, by omega, wr_var rfl ⟨_, le_rfl, _, le_besides, rfl, fun y hy => wg_name ⟨rfl, ?_⟩⟩⟩))⟩
    exact wr_tup (wa_cons (wr_var rfl (wa_cons (wr_var rfl (wa_nil ⟨by simp, le_pr⟩)))))
  have hn := nb_len (n := cols.length) (ring := ring) (a := (a : Int)) (b := (b : Int)) ok
  have e0 : (besideL p.inn b).map (fun o => aD K (pairD ((a : Int), o))) ++ (atL cols.length ring ((a : Int) - 1)).flatMap (fun c => (backL p.out b).map fun o => aD K (pairD (c, o))) ++ (atL cols.length ring ((a : Int) + 1)).flatMap (fun c => (onL p.out b).map fun o => aD K (pairD (c, o))) = aPrs K (nbL p cols.length ring a b) := by
    unfold nbL aPrs
    simp only [List.map_append, List.map_map, List.map_flatMap, Function.comp_def]
  have hlen : (aPrs K (nbL p cols.length ring a b)).length < 64 := by
    rw [List.length_map]
    exact hn
  rw [← e0] at hlen
  simp only [List.length_append] at hlen
  refine ws_retF (fr_sortP (fr_L (fr_cat (fr_L (fr_cat (wr_var rfl ⟨_, le_rfl, wr_var rfl ⟨_, le_rfl, ?_, _, rfl, _, le_rfl, wr_var rfl ⟨_, le_rfl, ?_, _, rfl, nbL p cols.length ring a b, nearL p w cols.length ring a b, .inl ?_, hn, asc_filter (by omega) (by have := ok.hi; omega) _, nb_perm ok hf (by omega) (by omega), k⟩⟩⟩))))))
  · exact Nat.le_trans (Nat.le_of_lt (Nat.lt_of_le_of_lt (Nat.le_add_right _ _) hlen)) (by decide)
  · refine Nat.le_trans (Nat.le_of_lt (m := 64) ?_) (by decide)
    rw [List.length_append]
    exact hlen
  · rw [e0]
    exact le_LQ
end
end G.J

set_option maxHeartbeats 400000
/-! Readings of the law's own defs about webs. -/
namespace G.J
open PySem PySem.Spec PyProof.Rows L2 Tp G
abbrev rMul : R2 := Tp.rMul
abbrev N_grid : List Str := ["many", "wide", "found", "at", "row"]
def t_grid (K : PySem.W.Frag) (Cs : Cl)  : TS :=
  (tSeq (tAsg (tLst tNil) (gName 2))
  (tSeq (tFor (iRng1 (tCons (tVar 0) tNil)) (gName 3) (tAsg (tOp rCat (tVar 2) (tLc (iRng1 (tCons (tVar 1) tNil)) (gName 4) tYes (tTup (tCons (tVar 3) (tCons (tVar 4) tNil))) [4])) (gName 2)))
  (tRet (tVar 2))))
abbrev N_dcell : List Str := ["tape"]
def t_dcell (K : PySem.W.Frag) (Cs : Cl)  : TS :=
  (tRet (tTup (tCons (tCall (spOne K) [] E0 (tCons (tVar 0) (tCons (tLst (tCons (tC (.int 1)) (tCons (tC (.int 1)) (tCons (tC (.int 1)) (tCons (tC (.int 2)) (tCons (tC (.int 2)) (tCons (tC (.int 2)) (tCons (tC (.int 3)) (tCons (tC (.int 3)) (tCons (tC (.int 0)) (tCons (tC (.int 4)) (tCons (tC (.int 9)) (tCons (tCall spPick [] E0 (tCons (tVar 0) (tCons (tC (.int 10)) tNil))) tNil))))))))))))) tNil))) (tCons (tOp rEq (tCall spPick [] E0 (tCons (tVar 0) (tCons (tC (.int 6)) tNil))) (tC (.int 0))) tNil))))
abbrev N_piles : List Str := ["tape", "plan", "many", "turn", "row"]
def t_piles (K : PySem.W.Frag) (Cs : Cl) (pDC : SpP) : TS :=
  (tRet (tLc (iRng1 (tCons (tVar 2) tNil)) (gName 3) tYes (tCB (rTupOf K) (tCons (tLc (iRng1 (tCons (tOp (rIxT K) (tVar 1) (tC (.int 0))) tNil)) (gName 4) tYes (tCall (spW pDC) [] E0 (tCons (tVar 0) tNil)) [4]) tNil)) [3]))
abbrev N_net : List Str := ["tape", "most", "many", "plan", "is_ring", "size"]
def t_net (K : PySem.W.Frag) (Cs : Cl) (pPiles : SpP) : TS :=
  (tSeq (tPar 3 4 (tCons (tCall (spDrawn K) [] E0 (tCons (tVar 0) (tCons (tVar 1) tNil))) (tCons (tOp rEq (tCall spPick [] E0 (tCons (tVar 0) (tCons (tC (.int 3)) tNil))) (tC (.int 0))) tNil)))
  (tSeq (tAsg (tIf (tB (tVar 4)) (tOp rAdd (tC (.int 3)) (tCall spPick [] E0 (tCons (tVar 0) (tCons (tCB rMax2 (tCons (tC (.int 1)) (tCons (tOp rSub (tVar 2) (tC (.int 2))) tNil))) tNil)))) (tOp rAdd (tC (.int 1)) (tCall spPick [] E0 (tCons (tVar 0) (tCons (tVar 2) tNil))))) (gName 5))
  (tRet (tLst (tCons (tVar 3) (tCons (tCall (spW pPiles) [] E0 (tCons (tVar 0) (tCons (tVar 3) (tCons (tVar 5) tNil)))) (tCons (tVar 4) tNil)))))))
abbrev N_mband : List Str := ["plan", "piles"]
def t_mband (K : PySem.W.Frag) (Cs : Cl) (pStr : List AV → (List (Str × AV) → Prop) → Prop) : TS :=
  (tRet (tMake Cs.S (spI Cs.S pStr) [] E0 (tCons (tCall (spMade K Cs.F) [] E0 (tCons (tVar 0) tNil)) (tCons (tVar 1) tNil))))
abbrev N_mweb : List Str := ["net"]
def t_mweb (K : PySem.W.Frag) (Cs : Cl) (pMB : SpP) (pWeb : List AV → (List (Str × AV) → Prop) → Prop) (gA : List V → List V → List V) : TS :=
  (tRet (tMakeK Cs.W 1 1 (spI Cs.W pWeb) gA E0 (tCons (tCall (spW pMB) [] E0 (tCons (tOp (rIxL K) (tVar 0) (tC (.int 0))) (tCons (tOp (rIxL K) (tVar 0) (tC (.int 1))) tNil))) tNil) (tCons (tOp (rIxL K) (tVar 0) (tC (.int 2))) tNil)))
abbrev N_spots : List Str := ["net"]
def t_spots (K : PySem.W.Frag) (Cs : Cl) (pGrid : SpP) : TS :=
  (tRet (tCall (spW pGrid) [] E0 (tCons (tCB (Tp.rLen K) (tCons (tOp (rIxL K) (tVar 0) (tC (.int 1))) tNil)) (tCons (tOp (rIxT K) (tOp (rIxL K) (tVar 0) (tC (.int 0))) (tC (.int 0))) tNil))))
abbrev N_close : List Str := ["net", "spot", "wide", "sidelong", "across", "piles", "is_ring", "at", "row", "found", "a", "b"]
def t_close (K : PySem.W.Frag) (Cs : Cl)  : TS :=
  (tSeq (tAsg (tVar 0) (gLst K 3 (gCons (gTup K 3 (gCons (gName 2) (gCons (gName 3) (gCons (gName 4) gNil)))) (gCons (gName 5) (gCons (gName 6) gNil)))))
  (tSeq (tAsg (tVar 1) (gTup K 2 (gCons (gName 7) (gCons (gName 8) gNil))))
  (tSeq (tAsg (tOp rCat (tLc (iTup K (tVar 3)) (gTup K 2 (gCons (gName 10) (gCons (gName 11) gNil))) (tTest (tOp rEq (tVar 10) (tVar 8))) (tTup (tCons (tVar 7) (tCons (tVar 11) tNil))) [10, 11]) (tLc (iTup K (tVar 3)) (gTup K 2 (gCons (gName 10) (gCons (gName 11) gNil))) (tTest (tOp rEq (tVar 11) (tVar 8))) (tTup (tCons (tVar 7) (tCons (tVar 10) tNil))) [10, 11])) (gName 9))
  (tSeq (tIfS (tOr (tB (tVar 6)) (tTest (tOp rLt (tOp rAdd (tVar 7) (tC (.int 1))) (tCB (Tp.rLen K) (tCons (tVar 5) tNil))))) (tAsg (tOp rCat (tVar 9) (tLc (iTup K (tVar 4)) (gTup K 2 (gCons (gName 10) (gCons (gName 11) gNil))) (tTest (tOp rEq (tVar 10) (tVar 8))) (tTup (tCons (tOp rMod (tOp rAdd (tVar 7) (tC (.int 1))) (tCB (Tp.rLen K) (tCons (tVar 5) tNil))) (tCons (tVar 11) tNil))) [10, 11])) (gName 9)) tNext)
  (tSeq (tIfS (tOr (tB (tVar 6)) (tTest (tOp rGt (tVar 7) (tC (.int 0))))) (tAsg (tOp rCat (tVar 9) (tLc (iTup K (tVar 4)) (gTup K 2 (gCons (gName 10) (gCons (gName 11) gNil))) (tTest (tOp rEq (tVar 11) (tVar 8))) (tTup (tCons (tOp rMod (tOp rSub (tVar 7) (tC (.int 1))) (tCB (Tp.rLen K) (tCons (tVar 5) tNil))) (tCons (tVar 10) tNil))) [10, 11])) (gName 9)) tNext)
  (tRet (tCB (rSortTT K 2 64) (tCons (tVar 9) tNil))))))))
abbrev N_box : List Str := ["net", "spot"]
def t_box (K : PySem.W.Frag) (Cs : Cl)  : TS :=
  (tRet (tOp (rIxT K) (tOp (rIxL K) (tOp (rIxL K) (tVar 0) (tC (.int 1))) (tOp (rIxT K) (tVar 1) (tC (.int 0)))) (tOp (rIxT K) (tVar 1) (tC (.int 1)))))
end G.J

set_option maxHeartbeats 400000
/-! The law's own webs: drawn, made, looked at. -/
namespace G.J
open PySem PySem.Spec PyProof.Rows L2 Tp G
section
variable {K : PySem.W.Frag} {Cs : Cl} {Γ : List SK} {te ta tb : TE} {Φ : AV → Prop}
/-! ### promises from before -/
theorem wr_drawn {te tm : TE} (h : WR Γ te fun A => Le A aTape ∧ WR Γ tm fun B => ∃ m : Nat, Le B (aI K (m : Int)) ∧ 1 ≤ m ∧ m ≤ 3 ∧ ∀ p : Plan, p.Ok → p.w ≤ (m : Int) → Φ (aD K (planD p))) : WR Γ (tCall (spDrawn K) [] E0 (tCons te (tCons tm tNil))) Φ := fun O0 H0 σ H e Q q =>
  h O0 H0 σ H e _ fun A ⟨l, hb⟩ v H1 g p => hb O0 H0 σ H1 (e.grow g) _ fun B ⟨m, lb, m1, m3, k⟩ w H2 g2 p2 => by
    obtain ⟨t, rfl, ht⟩ := l _ _ (av_up p)
    exact ⟨t, m, by rw [dp_int (lb _ _ p2)]; rfl, g2.tape_at ht, m1, m3, fun u pl H3 g3 ok hw hu => q _ (k pl ok hw) u H3 ((g.trans g2).trans g3) (dp_hid (fun p hp => (((e.grow g).grow g2).grow g3).there hp) _ _ (noL_plan _) hu)⟩
theorem frame_cut {CF x : Addr} {H : Hp} {p : Plan} {O : List Addr} (out : ∀ p ∈ O, Hid H p) (nx : x ∉ O) (h : FrameAt K CF H x p) : FrameAt K CF (dels O H) x p := by
  obtain ⟨dx, vi, vo, h1, h2, h3⟩ := h
  have n : ∀ l : List Pr, noL (.tuple (l.map pairD)) = true := fun l => by
    show noL.noLs (l.map pairD) = true
    exact noL_pairs l
  exact ⟨dx, vi, vo, by rw [dels_out nx]; exact h1, dp_hid out _ _ (n _) h2, dp_hid out _ _ (n _) h3⟩
theorem wr_made {CF : Addr} {te : TE} (h : WR Γ te fun A => ∃ p : Plan, p.Ok ∧ Le A (aD K (planD p)) ∧ Φ (aF K CF p)) : WR Γ (tCall (spMade K CF) [] E0 (tCons te tNil)) Φ := fun O0 H0 σ H e Q q =>
  h O0 H0 σ H e _ fun A ⟨p, ok, l, k⟩ v H1 g pv => ⟨v, p, rfl, ok, l _ _ (av_up pv), fun x H2 g2 hx fr => q _ k _ H2 (g.trans g2) ⟨x, rfl, frame_cut (fun p hp => ((e.grow g).grow g2).there hp) ((e.grow g).fresh hx) fr⟩⟩
/-- things shuffled, none a list -/
theorem wr_shuf {te tx : TE} (h : WR Γ te fun A => Le A aTape ∧ WR Γ tx fun B => ∃ ds, (Le B (aD K (.tuple ds)) ∨ Le B (aD K (.list ds))) ∧ ds.length ≤ 1000 ∧ (∀ d ∈ ds, item d = true) ∧ ∀ es : List PyData, es.Perm ds → Φ (aL (es.map (aD K)))) : WR Γ (tCall (spShuf K) [] E0 (tCons te (tCons tx tNil))) Φ := fun O0 H0 σ H e Q q =>
  h O0 H0 σ H e _ fun A ⟨l, hb⟩ v H1 g p => hb O0 H0 σ H1 (e.grow g) _ fun B ⟨ds, lb, hl, hi, k⟩ w H2 g2 p2 => by
    obtain ⟨t, rfl, ht⟩ := l _ _ (av_up p)
    refine ⟨t, w, ds, rfl, g2.tape_at ht, lb.imp (fun l => l _ _ (av_up p2)) (fun l => l _ _ (av_up p2)), hl, hi, fun z xs es H3 hz g3 at_ hx pm => ?_⟩
    refine q _ (k es pm) _ H3 ((g.trans g2).trans g3) ⟨z, xs, rfl, ?_, ?_⟩
    · unfold cut
      rw [dels_out (((e.grow g).grow g2).fresh hz)]
      exact at_
    · refine allV_D.mpr (dpAll_hid (fun p hp => (((e.grow g).grow g2).grow g3).there hp) _ _ ?_ (dpAll_gr gr_del _ _ hx))
      exact noLs_all.mpr fun d hd => by
        have := hi d (pm.mem_iff.mp hd)
        unfold item at this
        simp only [Bool.and_eq_true] at this
        exact this.1.1
def tInts : List Int → TA → TA
  | [], tr => tr
  | i :: l, tr => tCons (tC (.int i)) (tInts l tr)
theorem wa_ints {tr : TA} : ∀ {l : List Int} {Φs : List AV → Prop}, WA Γ tr (fun As => Φs (l.map (aI K) ++ As)) → WA Γ (tInts l tr) Φs
  | [], _, h => h
  | i :: l, Φs, h => wa_cons (wr_int (wa_ints (l := l) (Φs := fun As => Φs (aI K i :: As)) h))
/-! ### drawn webs -/
def pDC (K : PySem.W.Frag) : SpP := fun As Φ => ∃ A, As = [A] ∧ Le A aTape ∧ ∀ x : Cell, 0 ≤ x.1 → x.1 ≤ 9 → Φ (aD K (cellD x))
theorem le_cell {n : Int} {b : Bool} : Le (aT K [aI K n, aB K b]) (aD K (cellD (n, b))) := le_TD (ds := [.int n, .bool b])
theorem pure_dcell : ∀ vs H Q E, spW (pDC K) vs H Q E → t_dcell K Cs { nx := fun _ H' => Q .non H', rt := Q } (L2.start N_dcell vs) H := fn_W (K := K) fun As Φ ⟨A, hA, l, k⟩ => by
  subst hA
  refine ⟨0, rfl, ?_⟩
  unfold t_dcell
  have fin : ∀ (n : Int), 0 ≤ n → n ≤ 9 → WA (List.map SK.is [A] ++ List.replicate 0 SK.any) (tCons (tOp rEq (tCall spPick [] E0 (tCons (tVar 0) (tCons (tC (.int 6)) tNil))) (tC (.int 0))) tNil) fun As => ((aI K n) :: As).length ≤ 1000 ∧ ∃ A', Le (aT K (aI K n :: As)) A' ∧ Φ A' := fun n h1 h2 =>
    wa_cons (wr_eqI (wr_pick (K := K) (wr_var (A := A) rfl ⟨l, wr_int ⟨6, le_rfl, by decide, by decide, fun r hr => ⟨_, le_rfl, wr_int ⟨_, le_rfl, wa_nil ⟨by simp, _, le_cell, k (n, _) h1 h2⟩⟩⟩⟩⟩)))
  refine ws_ret (wr_less (wr_tup (K := K) (wa_cons (wr_one (K := K) (wr_var (A := A) rfl ⟨l, wr_lst (wa_ints (K := K) (l := [1, 1, 1, 2, 2, 2, 3, 3, 0, 4, 9]) (wa_cons (wr_pick (K := K) (wr_var (A := A) rfl ⟨l, wr_int ⟨10, le_rfl, by decide, by decide, fun r hr => wa_nil ⟨by simp, _, le_rfl, by simp, by simp, fun C hC => ?_⟩⟩⟩))))⟩)))))
  have : ∃ n : Int, 0 ≤ n ∧ n ≤ 9 ∧ C = aI K n := by
    simp only [List.map_cons, List.map_nil, List.cons_append, List.nil_append, List.mem_cons, List.not_mem_nil, or_false] at hC
    rcases hC with h | h | h | h | h | h | h | h | h | h | h | h
    all_goals first
      | exact ⟨_, by decide, by decide, h⟩
      | exact ⟨(r : Int), by omega, by omega, h⟩
  obtain ⟨n, h1, h2, rfl⟩ := this
  exact fin n h1 h2
def pPiles (K : PySem.W.Frag) : SpP := fun As Φ => ∃ A B C, ∃ (p : Plan) (w n : Nat), As = [A, B, C] ∧ Le A aTape ∧ Le B (aD K (planD p)) ∧ p.w = (w : Int) ∧ w ≤ 3 ∧ Le C (aI K (n : Int)) ∧ n ≤ 63 ∧ ∀ cols : List (List Cell), cols.length = n → ColsOk p cols → Φ (aL ((dCols cols).map (aD K)))
theorem le_plan {p : Plan} : Le (aD K (planD p)) (aT K [aI K p.w, aD K (.tuple (p.inn.map pairD)), aD K (.tuple (p.out.map pairD))]) := le_DT (ds := [.int p.w, .tuple (p.inn.map pairD), .tuple (p.out.map pairD)])
theorem pure_piles : ∀ vs H Q E, spW (pPiles K) vs H Q E → t_piles K Cs (pDC K) { nx := fun _ H' => Q .non H', rt := Q } (L2.start N_piles vs) H := fn_W (K := K) fun As Φ ⟨A, B, C, p, w, n, hA, lA, lB, hw, hw3, lC, hn, k⟩ => by
  subst hA
  refine ⟨2, rfl, ?_⟩
  unfold t_piles
  refine ws_ret (fr_L (fr_lc (S := [3]) (by simp) rfl (wi_rng1 (K := K) (wr_var (A := C) rfl ⟨n, lC, by omega, by rw [rngA_len]; omega, fun k acc => ∃ cols : List (List Cell), cols.length = k ∧ ColsOk p cols ∧ acc = (dCols cols).map (aD K), ⟨[], rfl, fun _ h => (nomatch h), rfl⟩, fun i D acc hi _ ⟨cols, hc, ok, e⟩ => wg_name ⟨rfl, wt_yes ⟨fun _ => ?_, fun z => nomatch z⟩⟩, fun acc _ ⟨cols, hc, ok, e⟩ => ?_⟩))))
  · refine wr_less (wr_tupOf (fr_L (fr_lc (S := [4]) (by simp) rfl (wi_rng1 (K := K) (wr_ixT (wr_var (A := B) rfl ⟨_, lB.trans le_plan, wr_int ⟨0, _, le_rfl, rfl, w, by rw [hw]; exact le_rfl, by omega, by rw [rngA_len]; omega, fun k acc => ∃ c : List Cell, c.length = k ∧ (∀ x ∈ c, 0 ≤ x.1 ∧ x.1 ≤ 9) ∧ acc = c.map fun x => aD K (cellD x), ⟨[], rfl, fun _ h => (nomatch h), rfl⟩, fun j D' acc' hj _ ⟨c, hcl, okc, e'⟩ => wg_name ⟨rfl, wt_yes ⟨fun _ => ?_, fun z => nomatch z⟩⟩, fun acc' _ ⟨c, hcl, okc, e'⟩ => ?_⟩⟩))))))
    · refine wr_call (wa_cons (wr_var (A := A) rfl (wa_nil ⟨A, rfl, lA, fun x h1 h2 => ⟨c ++ [x], by simp [hcl], fun y hy => ?_, by rw [e']; simp⟩⟩)))
      rcases List.mem_append.mp hy with h | h
      · exact okc y h
      · rw [List.mem_singleton.mp h]
        exact ⟨h1, h2⟩
    · rw [rngA_len] at hcl
      refine ⟨_, rfl, _, le_LQ, aD K (colD c), ?_, cols ++ [c], by simp [hc], fun y hy => ?_, by rw [e]; simp [dCols]⟩
      · rw [e']
        have z := le_TD (K := K) (ds := c.map cellD)
        rw [List.map_map] at z
        exact z
      · rcases List.mem_append.mp hy with h | h
        · exact ok y h
        · rw [List.mem_singleton.mp h, hw, hcl]
          exact ⟨rfl, okc⟩
  · rw [rngA_len] at hc
    exact ⟨_, by rw [e], k cols hc ok⟩
end
end G.J

set_option maxHeartbeats 400000
/-! The law's own webs: made, looked at. -/
namespace G.J
open PySem PySem.Spec PyProof.Rows L2 Tp G
section
variable {K : PySem.W.Frag} {Cs : Cl} {Γ : List SK} {te ta tb : TE} {Φ : AV → Prop}
theorem wr_max2 (h : IntR K Γ ta tb fun i j => Φ (aI K (if j > i then j else i))) : WR Γ (tCB rMax2 (tCons ta (tCons tb tNil))) Φ := fun O0 H0 σ H e Q q =>
  h O0 H0 σ H e _ fun A ⟨i, la, hb⟩ v H1 g1 p => hb O0 H0 σ H1 (e.grow g1) _ fun B ⟨j, lb, k⟩ w H2 g2 p2 => ⟨i, j, by rw [dp_int (la _ _ p), dp_int (lb _ _ p2)], q _ k _ H2 (g1.trans g2) (.int _)⟩
theorem wr_min2 (h : IntR K Γ ta tb fun i j => Φ (aI K (if j < i then j else i))) : WR Γ (tCB rMin2 (tCons ta (tCons tb tNil))) Φ := fun O0 H0 σ H e Q q =>
  h O0 H0 σ H e _ fun A ⟨i, la, hb⟩ v H1 g1 p => hb O0 H0 σ H1 (e.grow g1) _ fun B ⟨j, lb, k⟩ w H2 g2 p2 => ⟨i, j, by rw [dp_int (la _ _ p), dp_int (lb _ _ p2)], q _ k _ H2 (g1.trans g2) (.int _)⟩
def netD (p : Plan) (cols : List (List Cell)) (ring : Bool) : PyData := .list [planD p, .list (dCols cols), .bool ring]
theorem le_net {p : Plan} {cols : List (List Cell)} {ring : Bool} : Le (aD K (netD p cols ring)) (aQ K [aD K (planD p), aD K (.list (dCols cols)), aB K ring]) := le_DQ (ds := [planD p, .list (dCols cols), .bool ring])
theorem le_mknet {p : Plan} {cols : List (List Cell)} {ring : Bool} : Le (aL [aD K (planD p), aL ((dCols cols).map (aD K)), aB K ring]) (aD K (netD p cols ring)) := (le_L (.cons le_rfl (.cons le_LD (.cons le_rfl .nil)))).trans (le_LD (ds := [planD p, .list (dCols cols), .bool ring]))
def pNet (K : PySem.W.Frag) : SpP := fun As Φ => ∃ A B C, ∃ (m n : Nat), As = [A, B, C] ∧ Le A aTape ∧ Le B (aI K (m : Int)) ∧ 1 ≤ m ∧ m ≤ 3 ∧ Le C (aI K (n : Int)) ∧ 1 ≤ n ∧ n ≤ 50 ∧
  ∀ (p : Plan) (cols : List (List Cell)) (ring : Bool), p.Ok → p.w ≤ (m : Int) → ColsOk p cols → few ring ≤ cols.length → cols.length ≤ n + 2 → Φ (aD K (netD p cols ring))
theorem pure_net : ∀ vs H Q E, spW (pNet K) vs H Q E → t_net K Cs (pPiles K) { nx := fun _ H' => Q .non H', rt := Q } (L2.start N_net vs) H := fn_W (K := K) fun As Φ ⟨A, B, C, m, n, hA, lA, lB, m1, m3, lC, n1, n2, k⟩ => by
  subst hA
  refine ⟨3, rfl, ?_⟩
  unfold t_net
  refine ws_seq (ws_par (wa_cons (wr_drawn (wr_var (A := A) rfl ⟨lA, wr_var (A := B) rfl ⟨m, lB, m1, m3, fun p ok hw => wa_cons (wr_eqI (K := K) (wr_pick (K := K) (wr_var (A := A) rfl ⟨lA, wr_int ⟨3, le_rfl, by decide, by decide, fun r hr => ⟨_, le_rfl, wr_int ⟨_, le_rfl, wa_nil ⟨_, _, rfl, rfl, ?_⟩⟩⟩⟩⟩)))⟩⟩))))
  obtain ⟨w, hw1, _, hw3⟩ := ok_w ok
  have fin : ∀ (s : Nat) (ring : Bool), few ring ≤ s → s ≤ n + 2 → WS ([SK.is A, SK.is B, SK.is C, SK.is (aD K (planD p)), SK.is (aB K ring), SK.is (aI K (s : Int))]) (tRet (tLst (tCons (tVar 3) (tCons (tCall (spW (pPiles K)) [] E0 (tCons (tVar 0) (tCons (tVar 3) (tCons (tVar 5) tNil)))) (tCons (tVar 4) tNil))))) { nx := fun _ => Φ (aN K), rt := Φ } := fun s ring h1 h2 => by
    refine ws_ret (wr_less (wr_lst (wa_cons (wr_var rfl (wa_cons (wr_call (wa_cons (wr_var (A := A) rfl (wa_cons (wr_var rfl (wa_cons (wr_var rfl (wa_nil ⟨_, _, _, p, w, s, rfl, lA, le_rfl, hw1, hw3, le_rfl, by omega, fun cols hc okc => wa_cons (wr_var rfl (wa_nil ⟨by simp, _, le_mknet, k p cols ring ok hw okc (by omega) (by omega)⟩))⟩)))))))))))))
  refine ws_seq (ws_asg (wr_if (wt_B (K := K) (wr_var rfl ⟨_, le_rfl, fun h => ?_, fun h => ?_⟩))))
  · refine wr_add (wr_int ⟨3, le_rfl, wr_pick (K := K) (wr_var (A := A) rfl ⟨lA, wr_max2 (wr_int ⟨1, le_rfl, wr_sub (wr_var (A := C) rfl ⟨_, lC, wr_int ⟨2, le_rfl, _, le_rfl, max 1 (n - 2), ?_, by omega, by omega, fun r2 hr2 => ⟨_, le_rfl, ?_⟩⟩⟩)⟩)⟩)⟩)
    · have : (if (n : Int) - 2 > 1 then (n : Int) - 2 else 1) = ((max 1 (n - 2) : Nat) : Int) := by
        split <;> omega
      rw [this]
      exact le_rfl
    · rw [h]
      have e : (3 : Int) + (r2 : Int) = ((3 + r2 : Nat) : Int) := by omega
      have z := fin (3 + r2) true (by simp [few]) (by omega)
      rw [← e] at z
      exact z
  · refine wr_add (wr_int ⟨1, le_rfl, wr_pick (K := K) (wr_var (A := A) rfl ⟨lA, wr_var (A := C) rfl ⟨n, lC, by omega, by omega, fun r2 hr2 => ⟨_, le_rfl, ?_⟩⟩⟩)⟩)
    rw [h]
    have e : (1 : Int) + (r2 : Int) = ((1 + r2 : Nat) : Int) := by omega
    have z := fin (1 + r2) false (by simp [few]) (by omega)
    rw [← e] at z
    exact z
/-! ### made -/
def pMB (K : PySem.W.Frag) (Cs : Cl) : SpP := fun As Φ => ∃ A B p cols, As = [A, B] ∧ p.Ok ∧ Le A (aD K (planD p)) ∧ Le B (aD K (.list (dCols cols))) ∧ ColsOk p cols ∧ cols.length ≤ 1000 ∧ Φ (aSt K Cs p cols)
theorem pure_mband : ∀ vs H Q E, spW (pMB K Cs) vs H Q E → t_mband K Cs (pStr K Cs) { nx := fun _ H' => Q .non H', rt := Q } (L2.start N_mband vs) H := fn_W (K := K) fun As Φ ⟨A, B, p, cols, hA, ok, lA, lB, okc, hl, k⟩ => by
  subst hA
  refine ⟨0, rfl, ?_⟩
  unfold t_mband
  exact ws_ret (wr_make (wa_cons (wr_made (wr_var (A := A) rfl ⟨p, ok, lA, wa_cons (wr_var (A := B) rfl (wa_nil ⟨_, B, p, cols, rfl, ok, le_rfl, lB, okc, hl, k⟩))⟩))))
def gApp : List V → List V → List V := fun vs zs => vs ++ zs
theorem hg_app {As Bs : List AV} : ∀ (x : Addr) xs ys H, AllV As xs H → AllV Bs ys H → ∃ zs, gApp (V.ref x :: xs) ys = V.ref x :: zs ∧ AllV (As ++ Bs) zs H := fun x xs ys H h1 h2 => ⟨xs ++ ys, rfl, allV_app h1 h2⟩
def pMW (K : PySem.W.Frag) (Cs : Cl) : SpP := fun As Φ => ∃ A p cols ring, As = [A] ∧ p.Ok ∧ Le A (aD K (netD p cols ring)) ∧ ColsOk p cols ∧ few ring ≤ cols.length ∧ cols.length ≤ 1000 ∧ Φ (aW K Cs p cols ring)
theorem pure_mweb : ∀ vs H Q E, spW (pMW K Cs) vs H Q E → t_mweb K Cs (pMB K Cs) (pWeb K Cs) gApp { nx := fun _ H' => Q .non H', rt := Q } (L2.start N_mweb vs) H := fn_W (K := K) fun As Φ ⟨A, p, cols, ring, hA, ok, lA, okc, hf, hl, k⟩ => by
  subst hA
  refine ⟨0, rfl, ?_⟩
  unfold t_mweb
  exact ws_ret (wr_makeK (wa_cons (wr_call (wa_cons (wr_ixL (wr_var (A := A) rfl ⟨_, lA.trans le_net, wr_int ⟨0, _, le_rfl, rfl, wa_cons (wr_ixL (wr_var (A := A) rfl ⟨_, lA.trans le_net, wr_int ⟨1, _, le_rfl, rfl, wa_nil ⟨_, _, p, cols, rfl, ok, le_rfl, le_rfl, okc, hl, wa_nil (wa_cons (wr_ixL (wr_var (A := A) rfl ⟨_, lA.trans le_net, wr_int ⟨2, _, le_rfl, rfl, wa_nil ⟨_, rfl, rfl, hg_app, _, _, p, cols, ring, rfl, le_rfl, le_rfl, hf, by omega, k⟩⟩⟩)))⟩⟩⟩))⟩⟩))))))
/-! ### the law's looks -/
def pGrid (K : PySem.W.Frag) : SpP := fun As Φ => ∃ A B, ∃ (m n : Nat), As = [A, B] ∧ Le A (aI K (m : Int)) ∧ Le B (aI K (n : Int)) ∧ m ≤ 63 ∧ n ≤ 3 ∧ Φ (aL (aPrs K (gridP m n)))
theorem pure_grid : ∀ vs H Q E, spW (pGrid K) vs H Q E → t_grid K Cs { nx := fun _ H' => Q .non H', rt := Q } (L2.start N_grid vs) H := fn_W (K := K) fun As Φ ⟨A, B, m, n, hA, lA, lB, hm, hn, k⟩ => by
  subst hA
  refine ⟨3, rfl, ?_⟩
  unfold t_grid
  refine ws_seq (ws_asg (wr_lst (wa_nil ⟨by simp, ?_⟩)))
  refine ws_seq (ws_for (wi_rng1 (wr_var (A := A) rfl ⟨m, lA, by omega, fun i Γ' => ∃ s, Γ' = [.is A, .is B, .is (aL (aPrs K (gridP i n))), s, .any], ⟨_, rfl⟩, fun i D Γ' hi ⟨s, e⟩ => ?_, fun Γ' ⟨s, e⟩ => ?_⟩)))
  · obtain ⟨hi, rfl⟩ := rngA_at hi
    subst e
    refine ⟨[3], wg_name (ws_asg (fr_L (fr_cat (wr_var rfl ⟨_, le_rfl, wr_L (fr_map (X := Nat) (S := [4]) (by simp) rfl (wi_rng1 (wr_var (A := B) rfl ⟨n, lB, by omega, List.range n, _, fun (b : Nat) => aD K (pairD ((i : Int), (b : Int))), rfl, by simp; omega, fun x hx => ?_, _, fun _ _ z => z, _, le_rfl, ?_, _, rfl, ?_⟩)))⟩))))⟩
    · exact wg_name ⟨rfl, wr_tup (wa_cons (wr_var rfl (wa_cons (wr_var rfl (wa_nil ⟨by simp, le_pr⟩)))))⟩
    · rw [List.length_map, gridP_len, List.length_map, List.length_range]
      have : i * n ≤ 63 * 3 := Nat.mul_le_mul (by omega) hn
      omega
    · refine ⟨SK.is (aI K (i : Int)), ?_⟩
      have : aPrs K (gridP (i + 1) n) = aPrs K (gridP i n) ++ (List.range n).map fun (b : Nat) => aD K (pairD ((i : Int), (b : Int))) := by
        unfold aPrs
        rw [gridP_succ, List.map_append, List.map_map]
        rfl
      rw [this]
      rfl
  · subst e
    rw [rngA_len]
    exact ws_ret (wr_var rfl k)
end
end G.J

set_option maxHeartbeats 400000
/-! The law's own webs: seats, neighbours, cells. -/
namespace G.J
open PySem PySem.Spec PyProof.Rows L2 Tp G
section
variable {K : PySem.W.Frag} {Cs : Cl} {Γ : List SK} {te ta tb : TE} {Φ : AV → Prop}
def pSpots (K : PySem.W.Frag) : SpP := fun As Φ => ∃ A p cols ring, ∃ w : Nat, As = [A] ∧ Le A (aD K (netD p cols ring)) ∧ p.w = (w : Int) ∧ w ≤ 3 ∧ cols.length ≤ 63 ∧ Φ (aL (aPrs K (gridP cols.length w)))
theorem dcols_len {cols : List (List Cell)} : ((dCols cols).map (aD K)).length = cols.length := by simp [dCols]
theorem pure_spots : ∀ vs H Q E, spW (pSpots K) vs H Q E → t_spots K Cs (pGrid K) { nx := fun _ H' => Q .non H', rt := Q } (L2.start N_spots vs) H := fn_W (K := K) fun As Φ ⟨A, p, cols, ring, w, hA, l, hw, hw3, hl, k⟩ => by
  subst hA
  refine ⟨0, rfl, ?_⟩
  unfold t_spots
  have hL : HasLen K (aD K (.list (dCols cols))) cols.length := by
    have z := hl_Q (le_DQ (K := K) (ds := dCols cols))
    rw [dcols_len] at z
    exact z
  refine ws_ret (wr_call (wa_cons (wr_len (wr_ixL (wr_var (A := A) rfl ⟨_, l.trans le_net, wr_int ⟨1, _, le_rfl, rfl, cols.length, hL, ?_⟩⟩)))))
  refine wa_cons (wr_ixT (wr_ixL (wr_var (A := A) rfl ⟨_, l.trans le_net, wr_int ⟨0, _, le_rfl, rfl, _, le_plan, wr_int ⟨0, _, le_rfl, rfl, ?_⟩⟩⟩)))
  exact wa_nil ⟨_, _, cols.length, w, rfl, le_rfl, by rw [hw]; exact le_rfl, hl, hw3, k⟩
def pBox (K : PySem.W.Frag) : SpP := fun As Φ => ∃ A B p cols ring, ∃ (a b : Nat) (cl : List Cell) (x : Cell), As = [A, B] ∧ Le A (aD K (netD p cols ring)) ∧ Le B (aD K (pairD ((a : Int), (b : Int)))) ∧ cols[a]? = some cl ∧ cl[b]? = some x ∧ Φ (aD K (cellD x))
theorem le_colT {cl : List Cell} : Le (aD K (colD cl)) (aT K (cl.map fun y => aD K (cellD y))) := by
  have z := le_DT (K := K) (ds := cl.map cellD)
  rw [List.map_map] at z
  exact z
theorem pure_box : ∀ vs H Q E, spW (pBox K) vs H Q E → t_box K Cs { nx := fun _ H' => Q .non H', rt := Q } (L2.start N_box vs) H := fn_W (K := K) fun As Φ ⟨A, B, p, cols, ring, a, b, cl, x, hA, lA, lB, hc, hx, k⟩ => by
  subst hA
  refine ⟨0, rfl, ?_⟩
  unfold t_box
  refine ws_ret (wr_ixT (wr_ixL (wr_ixL (wr_var (A := A) rfl ⟨_, lA.trans le_net, wr_int ⟨1, _, le_rfl, rfl, _, le_DQ, wr_ixT (wr_var (A := B) rfl ⟨_, lB.trans le_pr', wr_int ⟨0, _, le_rfl, rfl, a, aD K (colD cl), le_rfl, ?_, _, le_colT, wr_ixT (wr_var (A := B) rfl ⟨_, lB.trans le_pr', wr_int ⟨1, _, le_rfl, rfl, b, aD K (cellD x), le_rfl, ?_, k⟩⟩)⟩⟩)⟩⟩))))
  · rw [List.getElem?_map, List.getElem?_map, hc]
    rfl
  · rw [List.getElem?_map, hx]
    rfl
theorem ws_ifJ {Γ1 : List SK} {b : Bool} {c : TT} {t u : TS} {E : EA} (h : WT Γ c fun t => t = b) (h1 : b = true → WS Γ t { E with nx := fun Γ' => Γ' = Γ1 }) (h2 : b = false → WS Γ u { E with nx := fun Γ' => Γ' = Γ1 }) (k : E.nx Γ1) : WS Γ (tIfS c t u) E :=
  ws_if (wt_mono h fun t ht => ⟨fun z => ws_mono (h1 (by rw [← ht]; exact z)) fun O0 H0 D f => ⟨fun Γ' σ' H' e => f.nx Γ' σ' H' (by rw [e]; exact k), f.rt, f.bk, f.ct, f.xc, f.rf⟩, fun z => ws_mono (h2 (by rw [← ht]; exact z)) fun O0 H0 D f => ⟨fun Γ' σ' H' e => f.nx Γ' σ' H' (by rw [e]; exact k), f.rt, f.bk, f.ct, f.xc, f.rf⟩⟩)
/-! ### neighbours -/
theorem wgs_cons1 {A : AV} {As : List AV} {S S1 : List Nat} {k : List SK → Prop} {g : TG} {gs : TGs} (hg : WGt g A Γ S fun Γ' => owns Γ' = owns Γ ∧ WGs gs As Γ' S1 k) : WGs (gCons g gs) (A :: As) Γ (S ++ S1) k := fun O0 H0 σ H vs e p Q q => by
  cases p with
  | cons p1 p2 =>
    refine ⟨_, _, rfl, hg O0 H0 σ H _ e p1 _ fun Γ' σ' ⟨ho, h⟩ e' hw => ?_⟩
    refine h O0 H0 σ' H _ e' (by unfold cut; rw [ho]; exact p2) Q fun Γ2 σ2 hk e2 hw2 => q Γ2 σ2 hk e2 fun us hu => ?_
    rw [hw2 us fun i hi => hu i (List.mem_append_right _ hi), hw us fun i hi => hu i (List.mem_append_left _ hi)]
theorem wg_lst {A : AV} {k : List SK → Prop} {gs : TGs} {n : Nat} {S : List Nat} (h : ∃ As, Le A (aQ K As) ∧ As.length = n ∧ WGs gs As Γ S k) : WGt (gLst K n gs) A Γ S k := fun O0 H0 σ H v e p Q q => by
  obtain ⟨As, la, hl, h⟩ := h
  obtain ⟨r, xs, rfl, hs, hx⟩ := la _ _ p
  exact ⟨r, xs, rfl, gr_dels1.sql hs, by rw [allV_len hx, hl], h O0 H0 σ H xs e hx Q q⟩
/-- [(c, y) for x, y in pairs if the one of the row is row] -/
def clL (p : Plan) (n : Nat) (ring : Bool) (a b : Int) : List Pr :=
  ((onL p.inn b).map fun o => (a, o)) ++ ((backL p.inn b).map fun o => (a, o)) ++ ((atL n ring (a + 1)).flatMap fun c => (onL p.out b).map fun o => (c, o)) ++ ((atL n ring (a - 1)).flatMap fun c => (backL p.out b).map fun o => (c, o))
theorem cl_perm {p : Plan} {n : Nat} {ring : Bool} {a b : Int} : (clL p n ring a b).Perm (nbL p n ring a b) := by
  unfold clL nbL besideL
  rw [List.map_append, List.append_assoc]
  refine (List.perm_append_comm.append List.perm_append_comm).trans ?_
  rw [← List.append_assoc]
theorem up_eq {n : Nat} {ring : Bool} {a : Int} (h0 : 0 ≤ a) (h1 : a < n) : atL n ring (a + 1) = if ring = true ∨ a + 1 < (n : Int) then [(a + 1) % (n : Int)] else [] := by
  unfold atL
  cases ring with
  | true => simp
  | false =>
    by_cases h : a + 1 < (n : Int)
    · rw [if_neg (by simp), if_pos ⟨by omega, h⟩, if_pos (.inr h), Int.emod_eq_of_lt (by omega) h]
    · rw [if_neg (by simp), if_neg (by omega), if_neg (by simp; omega)]
theorem down_eq {n : Nat} {ring : Bool} {a : Int} (h0 : 0 ≤ a) (h1 : a < n) : atL n ring (a - 1) = if ring = true ∨ 0 < a then [(a - 1) % (n : Int)] else [] := by
  unfold atL
  cases ring with
  | true => simp
  | false =>
    by_cases h : 0 < a
    · rw [if_neg (by simp), if_pos ⟨by omega, by omega⟩, if_pos (.inr h), Int.emod_eq_of_lt (by omega) (by omega)]
    · rw [if_neg (by simp), if_neg (by omega), if_neg (by simp; omega)]
theorem sel_on {l : List Pr} {b : Int} {f : Int → AV} : (l.filter fun s => decide (s.1 = b)).map (fun s => f s.2) = (onL l b).map f := by
  unfold onL
  rw [List.map_map]
  rfl
theorem sel_back {l : List Pr} {b : Int} {f : Int → AV} : (l.filter fun s => decide (s.2 = b)).map (fun s => f s.1) = (backL l b).map f := by
  unfold backL
  rw [List.map_map]
  rfl
theorem le_prs {l : List Pr} : Le (aD K (.tuple (l.map pairD))) (aT K (aPrs K l)) := by
  have z := le_DT (K := K) (ds := l.map pairD)
  rw [List.map_map] at z
  exact z
def pClose (K : PySem.W.Frag) : SpP := fun As Φ => ∃ A B p cols ring, ∃ (w a b : Nat), As = [A, B] ∧ Le A (aD K (netD p cols ring)) ∧ POk p w ∧ few ring ≤ cols.length ∧ cols.length ≤ 63 ∧ Le B (aD K (pairD ((a : Int), (b : Int)))) ∧ a < cols.length ∧ b < w ∧ Φ (aL (aPrs K (nearL p w cols.length ring a b)))
theorem pure_close : ∀ vs H Q E, spW (pClose K) vs H Q E → t_close K Cs { nx := fun _ H' => Q .non H', rt := Q } (L2.start N_close vs) H := fn_W (K := K) fun As Φ ⟨A, B, p, cols, ring, w, a, b, hA, lA, ok, hf, hl, lB, ha, hb, k⟩ => by
  subst hA
  refine ⟨10, rfl, ?_⟩
  unfold t_close
  have li := ok.li
  have lo := ok.lo'
  have n0 := (few_pos hf).1
  have hcl := (cl_perm (p := p) (n := cols.length) (ring := ring) (a := (a : Int)) (b := (b : Int)))
  have hlen : (clL p cols.length ring a b).length < 64 := by
    rw [hcl.length_eq]
    exact nb_len ok
  have hL : HasLen K (aD K (.list (dCols cols))) cols.length := by
    have z := hl_Q (le_DQ (K := K) (ds := dCols cols))
    rw [dcols_len] at z
    exact z
  refine ws_seq (ws_asgT (wr_var (A := A) rfl (wg_lst (S := [2, 3, 4] ++ [5, 6]) ⟨_, lA.trans le_net, rfl, wgs_cons1 (wg_tup ⟨_, le_plan, rfl, wgs_cons (fun _ => rfl) (wgs_cons (fun _ => rfl) (wgs_cons (fun _ => rfl) (wgs_nil ⟨rfl, wgs_cons (fun _ => rfl) (wgs_cons (fun _ => rfl) (wgs_nil ?_))⟩)))⟩)⟩)))
  refine ws_seq (ws_asgT (wr_var (A := B) rfl (wg_tup (S := [7, 8]) ⟨_, lB.trans le_pr', rfl, wgs_cons (fun _ => rfl) (wgs_cons (fun _ => rfl) (wgs_nil ?_))⟩)))
  show WS [.is A, .is B, .is (aI K p.w), .is (aD K (.tuple (p.inn.map pairD))), .is (aD K (.tuple (p.out.map pairD))), .is (aD K (.list (dCols cols))), .is (aB K ring), .is (aI K (a : Int)), .is (aI K (b : Int)), .any, .any, .any] _ _
  refine ws_seq (ws_asg (fr_L (fr_cat (wr_L (fr_filt (X := Pr) (S := [10, 11]) (by simp) rfl (wi_tup (wr_var rfl ⟨_, le_prs, p.inn, _, fun s => aD K (pairD ((a : Int), s.2)), fun s => decide (s.1 = (b : Int)), rfl, by omega, fun s hs => ?_, _, fun _ _ z => z, _, le_rfl,
    wr_L (fr_filt (X := Pr) (S := [10, 11]) (by simp) rfl (wi_tup (wr_var rfl ⟨_, le_prs, p.inn, _, fun s => aD K (pairD ((a : Int), s.1)), fun s => decide (s.2 = (b : Int)), rfl, by omega, fun s hs => ?_, _, fun _ _ z => z, _, le_rfl, ?_, _, rfl, ?_⟩)))⟩)))))))
  · refine wg_tup ⟨_, le_pr', rfl, wgs_cons (fun _ => rfl) (wgs_cons (fun _ => rfl) (wgs_nil ⟨rfl, ?_⟩))⟩
    refine wt_test (K := K) (wr_eqI (K := K) (wr_var rfl ⟨_, le_rfl, wr_var rfl ⟨_, le_rfl, _, le_rfl, rfl, fun _ => ?_⟩⟩))
    exact wr_tup (wa_cons (wr_var rfl (wa_cons (wr_var rfl (wa_nil ⟨by simp, le_pr⟩)))))
  · refine wg_tup ⟨_, le_pr', rfl, wgs_cons (fun _ => rfl) (wgs_cons (fun _ => rfl) (wgs_nil ⟨rfl, ?_⟩))⟩
    refine wt_test (K := K) (wr_eqI (K := K) (wr_var rfl ⟨_, le_rfl, wr_var rfl ⟨_, le_rfl, _, le_rfl, rfl, fun _ => ?_⟩⟩))
    exact wr_tup (wa_cons (wr_var rfl (wa_cons (wr_var rfl (wa_nil ⟨by simp, le_pr⟩)))))
  · have l1 := List.length_filter_le (fun s : Pr => decide (s.1 = (b : Int))) p.inn
    have l2 := List.length_filter_le (fun s : Pr => decide (s.2 = (b : Int))) p.inn
    rw [List.length_map, List.length_map]
    omega
  show WS [.is A, .is B, .is (aI K p.w), .is (aD K (.tuple (p.inn.map pairD))), .is (aD K (.tuple (p.out.map pairD))), .is (aD K (.list (dCols cols))), .is (aB K ring), .is (aI K (a : Int)), .is (aI K (b : Int)), .is (aL (_ ++ _)), .any, .any] _ _
  rw [sel_on (f := fun o => aD K (pairD ((a : Int), o))), sel_back (f := fun o => aD K (pairD ((a : Int), o)))]
  have elt : ∀ {Γ : List SK} {c o : Int} {tc : TE} {i : Nat}, Γ[i]? = some (.is (aI K o)) → WR Γ tc (fun A => Le A (aI K c)) → WR Γ (tTup (tCons tc (tCons (tVar i) tNil))) fun B => Le B (aD K (pairD (c, o))) := fun hi hc => wr_tup (wa_cons (wr_mono hc fun A lA => wa_cons (wr_var hi (wa_nil ⟨by simp, fun v H p => le_pr _ _ (le_T (.cons lA (.cons le_rfl .nil)) v H p)⟩))))
  have modU : ∀ {Γ : List SK} {k : Int} {t7 : TE}, Γ[5]? = some (.is (aD K (.list (dCols cols)))) → WR Γ t7 (fun A => Le A (aI K k)) → WR Γ (tOp rMod t7 (tCB (Tp.rLen K) (tCons (tVar 5) tNil))) fun B => Le B (aI K (k % (cols.length : Int))) := fun h5 h7 => wr_iC (g := fun i j => .int (i % j)) (fun _ _ _ => .int _) (wr_mono h7 fun A lA => ⟨_, lA, wr_len (wr_var h5 ⟨_, hL, _, le_rfl, by omega, le_rfl⟩)⟩)
  have e1 : (onL p.inn b).map (fun o => aD K (pairD ((a : Int), o))) ++ (backL p.inn b).map (fun o => aD K (pairD ((a : Int), o))) = aPrs K (((onL p.inn b).map fun o => ((a : Int), o)) ++ ((backL p.inn b).map fun o => ((a : Int), o))) := by
    unfold aPrs
    rw [List.map_append, List.map_map, List.map_map]
    rfl
  rw [e1]
  have fl : ∀ (c : Int) (l : List Int), (l.map fun o => aD K (pairD (c, o))) = aPrs K (l.map fun o => (c, o)) := fun c l => by
    unfold aPrs
    rw [List.map_map]
    rfl
  generalize hl1 : (((onL p.inn b).map fun o => ((a : Int), o)) ++ ((backL p.inn b).map fun o => ((a : Int), o))) = l1
  have len1 : l1.length ≤ 18 := by
    rw [← hl1, List.length_append, List.length_map, List.length_map]
    have := back_len (l := p.inn) (r := (b : Int))
    have := on_len (l := p.inn) (r := (b : Int))
    omega
  have lo1 := on_len (l := p.out) (r := (b : Int))
  have lb1 := back_len (l := p.out) (r := (b : Int))
  refine ws_seq (ws_ifJ (Γ1 := [.is A, .is B, .is (aI K p.w), .is (aD K (.tuple (p.inn.map pairD))), .is (aD K (.tuple (p.out.map pairD))), .is (aD K (.list (dCols cols))), .is (aB K ring), .is (aI K (a : Int)), .is (aI K (b : Int)), .is (aL (aPrs K (l1 ++ (atL cols.length ring ((a : Int) + 1)).flatMap fun c => (onL p.out b).map fun o => (c, o)))), .any, .any]) (b := decide (ring = true ∨ (a : Int) + 1 < (cols.length : Int))) (wt_or (wt_B (K := K) (wr_var rfl ⟨ring, le_rfl, fun h => by simp [h], fun h => wt_test (K := K) (wr_lt (wr_add (wr_var rfl ⟨_, le_rfl, wr_int ⟨_, le_rfl, _, le_rfl, wr_len (wr_var rfl ⟨_, hL, _, le_rfl, _, le_rfl, by simp [h]⟩)⟩⟩)))⟩))) (fun h => ?_) (fun h => ?_) ?_)
  · refine ws_asg (fr_L (fr_cat (wr_var rfl ⟨_, le_rfl, wr_L (fr_filt (X := Pr) (S := [10, 11]) (by simp) rfl (wi_tup (wr_var rfl ⟨_, le_prs, p.out, _, fun s => aD K (pairD (((a : Int) + 1) % (cols.length : Int), s.2)), fun s => decide (s.1 = (b : Int)), rfl, by omega, fun s hs => ?_, _, fun _ _ z => z, _, le_rfl, ?_, _, rfl, ?_⟩)))⟩)))
    · refine wg_tup ⟨_, le_pr', rfl, wgs_cons (fun _ => rfl) (wgs_cons (fun _ => rfl) (wgs_nil ⟨rfl, ?_⟩))⟩
      refine wt_test (K := K) (wr_eqI (K := K) (wr_var rfl ⟨_, le_rfl, wr_var rfl ⟨_, le_rfl, _, le_rfl, rfl, fun _ => ?_⟩⟩))
      exact elt rfl (modU rfl (wr_add (wr_var rfl ⟨_, le_rfl, wr_int ⟨_, le_rfl, le_rfl⟩⟩)))
    · have l2 := List.length_filter_le (fun s : Pr => decide (s.1 = (b : Int))) p.out
      rw [List.length_map, List.length_map]
      omega
    · rw [sel_on (f := fun o => aD K (pairD (((a : Int) + 1) % (cols.length : Int), o))), fl, up_eq (by omega) (by omega), if_pos (of_decide_eq_true h)]
      simp only [List.flatMap_cons, List.flatMap_nil, List.append_nil]
      show [_, _, _, _, _, _, _, _, _, SK.is (aL (aPrs K l1 ++ aPrs K _)), _, _] = _
      rw [← List.map_append]
  · refine ws_next ?_
    rw [up_eq (by omega) (by omega), if_neg (of_decide_eq_false h)]
    simp
  generalize hl2 : (l1 ++ (atL cols.length ring ((a : Int) + 1)).flatMap fun c => (onL p.out b).map fun o => (c, o)) = l2
  have len2 : l2.length ≤ 27 := by
    have := flat1_len (m := onL p.out b) (at_one cols.length ring ((a : Int) + 1))
    rw [← hl2, List.length_append]
    omega
  refine ws_seq (ws_ifJ (Γ1 := [.is A, .is B, .is (aI K p.w), .is (aD K (.tuple (p.inn.map pairD))), .is (aD K (.tuple (p.out.map pairD))), .is (aD K (.list (dCols cols))), .is (aB K ring), .is (aI K (a : Int)), .is (aI K (b : Int)), .is (aL (aPrs K (l2 ++ (atL cols.length ring ((a : Int) - 1)).flatMap fun c => (backL p.out b).map fun o => (c, o)))), .any, .any]) (b := decide (ring = true ∨ 0 < (a : Int))) (wt_or (wt_B (K := K) (wr_var rfl ⟨ring, le_rfl, fun h => by simp [h], fun h => wt_test (K := K) (wr_gt (wr_var rfl ⟨_, le_rfl, wr_int ⟨_, le_rfl, _, le_rfl, by simp [h]⟩⟩))⟩))) (fun h => ?_) (fun h => ?_) ?_)
  · refine ws_asg (fr_L (fr_cat (wr_var rfl ⟨_, le_rfl, wr_L (fr_filt (X := Pr) (S := [10, 11]) (by simp) rfl (wi_tup (wr_var rfl ⟨_, le_prs, p.out, _, fun s => aD K (pairD (((a : Int) - 1) % (cols.length : Int), s.1)), fun s => decide (s.2 = (b : Int)), rfl, by omega, fun s hs => ?_, _, fun _ _ z => z, _, le_rfl, ?_, _, rfl, ?_⟩)))⟩)))
    · refine wg_tup ⟨_, le_pr', rfl, wgs_cons (fun _ => rfl) (wgs_cons (fun _ => rfl) (wgs_nil ⟨rfl, ?_⟩))⟩
      refine wt_test (K := K) (wr_eqI (K := K) (wr_var rfl ⟨_, le_rfl, wr_var rfl ⟨_, le_rfl, _, le_rfl, rfl, fun _ => ?_⟩⟩))
      exact elt rfl (modU rfl (wr_sub (wr_var rfl ⟨_, le_rfl, wr_int ⟨_, le_rfl, le_rfl⟩⟩)))
    · have l2 := List.length_filter_le (fun s : Pr => decide (s.2 = (b : Int))) p.out
      rw [List.length_map, List.length_map]
      omega
    · rw [sel_back (f := fun o => aD K (pairD (((a : Int) - 1) % (cols.length : Int), o))), fl, down_eq (by omega) (by omega), if_pos (of_decide_eq_true h)]
      simp only [List.flatMap_cons, List.flatMap_nil, List.append_nil]
      show [_, _, _, _, _, _, _, _, _, SK.is (aL (aPrs K l2 ++ aPrs K _)), _, _] = _
      rw [← List.map_append]
  · refine ws_next ?_
    rw [down_eq (by omega) (by omega), if_neg (of_decide_eq_false h)]
    simp
  have ecl : (l2 ++ (atL cols.length ring ((a : Int) - 1)).flatMap fun c => (backL p.out b).map fun o => (c, o)) = clL p cols.length ring a b := by
    rw [← hl2, ← hl1]
    rfl
  rw [ecl]
  refine ws_ret (wr_L (fr_sortP (wr_var rfl ⟨_, nearL p w cols.length ring a b, .inl le_LQ, hlen, asc_filter (by omega) (by have := ok.hi; omega) _, hcl.trans (nb_perm ok hf (by omega) (by omega)), _, fun _ _ z => z, k⟩)))
end
end G.J

set_option maxHeartbeats 400000
namespace Tp
open PySem PySem.Spec PyProof.Rows L2
/-- the classes' places, and the field that each one of the first eighteen has -/
abbrev fVal : Str := "value"
def fldOf (i : Nat) : Str := if i < 15 then "value" else if i = 15 then "number" else if i = 16 then "many" else "line"
structure ErrTab (K : PySem.W.Frag) (cl : Nat → Addr) (S : Addr) : Prop where
  is : ∀ i, i < 24 → XIs K (cl i)
  no : ∀ i, i < 18 → PySem.W.findIn K (.ref (cl i)) (fldOf i) = some none
  kit : ∀ i j, i < 24 → j < 24 → PySem.W.kitOne K (.ref (cl i)) (.ref (cl j)) = some (decide (j = i))
  spark : ∀ i, i < 24 → PySem.W.kitOne K (.ref (cl i)) (.ref S) = some true
  val : ∀ i, i < 24 → PySem.W.kitOne K (.ref (cl i)) (.type "ValueError") = some true
def PErr (C : Addr) (f : Str) (v : V) : VP := fun x H => ∃ a, x = .ref a ∧ ErrF H a C f v
def PPair (C : Addr) (f : Str) (v : V) : VP := fun x H => ∃ p a b, x = .ref p ∧ H p = some (.tup [.ref a, .ref b]) ∧ ErrF H a C f v ∧ ErrF H b C f v
def PRow (C : Addr) (v : V) : VP := fun x H => ∃ p a b, x = .ref p ∧ H p = some (.tup [.ref a, .ref b, v, v]) ∧ ErrAt H a C ∧ ErrAt H b C
theorem grows_err {C : Addr} {f : Str} {v : V} : Grows (PErr C f v) := fun _ _ _ e ⟨a, h1, h2⟩ => ⟨a, h1, errF_grow e h2⟩
theorem grows_pair {C : Addr} {f : Str} {v : V} : Grows (PPair C f v) := fun _ _ _ e ⟨p, a, b, h1, h2, h3, h4⟩ => ⟨p, a, b, h1, e _ _ h2, errF_grow e h3, errF_grow e h4⟩
theorem grows_row {C : Addr} {v : V} : Grows (PRow C v) := fun _ _ _ e ⟨p, a, b, h1, h2, h3, h4⟩ => ⟨p, a, b, h1, e _ _ h2, errAt_grow e h3, errAt_grow e h4⟩
theorem grows_eq {x : V} : Grows (fun v _ => v = x) := fun _ _ _ _ h => h
abbrev tE (C : Addr) (f : Str) : TE := tErr C f (tCons (tVar 0) tNil)
abbrev tPr (C : Addr) : TE := tt [tE C "value", tE C "value"]
abbrev tRow (K : PySem.W.Frag) (f : Str) : TE := tt [tVar 2, tVar 3, tXfld K f (tVar 2), tXfld K f (tVar 3)]
section
variable {K : PySem.W.Frag} {cl : Nat → Addr} {S : Addr} {σ : L2.St} {H : Hp} {v : V}
theorem em_e {C : Addr} {f : Str} (h0 : σ[0]? = some (some v)) : EvM (tE C f) σ H (PErr C f v) := em_err (em_var h0 fun _ _ => rfl) fun a _ _ h => ⟨a, rfl, h⟩
theorem allP2 {P Q : VP} {vs : List V} (h : AllP H [P, Q] vs) : ∃ x y, vs = [x, y] ∧ P x H ∧ Q y H := by
  cases h with
  | cons h1 h2 =>
    cases h2 with
    | cons h3 h4 =>
      cases h4
      exact ⟨_, _, rfl, h1, h3⟩
theorem allP4 {P Q R T : VP} {vs : List V} (h : AllP H [P, Q, R, T] vs) : ∃ x y z u, vs = [x, y, z, u] ∧ P x H ∧ Q y H ∧ R z H ∧ T u H := by
  cases h with
  | cons h1 h2 =>
    cases h2 with
    | cons h3 h4 =>
      obtain ⟨z, u, rfl, h5, h6⟩ := allP2 h4
      exact ⟨_, _, _, _, rfl, h1, h3, h5, h6⟩
theorem em_pr {C : Addr} (h0 : σ[0]? = some (some v)) : EvM (tPr C) σ H (PPair C "value" v) := by
  refine em_tup (Ps := [PErr C "value" v, PErr C "value" v]) (.cons grows_err (.cons grows_err .nil)) (ems_cons grows_err (em_e h0) (ems_cons grows_err (em_e h0) ems_nil)) (by show 2 ≤ 1000; decide) fun p vs H' _ al hp _ => ?_
  obtain ⟨x, y, rfl, ⟨a, rfl, ha⟩, ⟨b, rfl, hb⟩⟩ := allP2 al
  exact ⟨p, a, b, rfl, hp, ha, hb⟩
/-- (one, two, one.f, two.f) -/
theorem em_row {C a b D : Addr} {f : Str} (T : XIs K C) (no : PySem.W.findIn K (.ref C) f = some none) (hD : H D ≠ none) (ha : σ[2]? = some (some (.ref a))) (hb : σ[3]? = some (some (.ref b))) (ea : ErrF (delH H D) a C f v) (eb : ErrF (delH H D) b C f v) :
    EvM (tRow K f) σ H (fun x H' => PRow C v x (delH H' D)) := by
  refine em_tup (Ps := [fun x _ => x = .ref a, fun x _ => x = .ref b, fun x _ => x = v, fun x _ => x = v]) (.cons grows_eq (.cons grows_eq (.cons grows_eq (.cons grows_eq .nil)))) ?_ (by show 4 ≤ 1000; decide) fun p vs H' e al hp hn => ?_
  · refine ems_cons grows_eq (em_var ha fun _ _ => rfl) (ems_cons grows_eq (em_var hb fun _ _ => rfl) (ems_cons grows_eq ?_ (ems_cons grows_eq ?_ ems_nil)))
    · exact em_xfld T no (em_var ha fun _ _ => rfl) (errF_grow ex_del ea) fun _ _ => rfl
    · exact em_xfld T no (em_var hb fun _ _ => rfl) (errF_grow ex_del eb) fun _ _ => rfl
  · obtain ⟨_, _, _, _, rfl, x1, x2, x3, x4⟩ := allP4 al
    rw [x1, x2, x3, x4] at hp
    have ne : p ≠ D := fun z => hD (by rw [← z]; exact hn)
    exact ⟨p, a, b, rfl, by rw [delH_ne ne]; exact hp, .inl ⟨f, v, errF_grow (ex_dels e) ea⟩, .inl ⟨f, v, errF_grow (ex_dels e) eb⟩⟩

/-! ### _law_valued -/
abbrev NVal : List Str := ["thing", "found", "one", "two"]
def t_valued (K : PySem.W.Frag) (cl : Nat → Addr) : TS :=
  tSeq (tAsg (tLst (tas [tPr (cl 0), tPr (cl 1)])) (gName 1))
  (tSeq (tAsg (tOp rCat (tVar 1) (tLst (tas [tPr (cl 2), tPr (cl 3)]))) (gName 1))
  (tSeq (tAsg (tOp rCat (tVar 1) (tLst (tas [tPr (cl 4), tPr (cl 5)]))) (gName 1))
  (tSeq (tAsg (tOp rCat (tVar 1) (tLst (tas [tPr (cl 6), tPr (cl 7)]))) (gName 1))
  (tSeq (tAsg (tOp rCat (tVar 1) (tLst (tas [tPr (cl 8), tPr (cl 9)]))) (gName 1))
  (tSeq (tAsg (tOp rCat (tVar 1) (tLst (tas [tPr (cl 10), tPr (cl 11)]))) (gName 1))
  (tSeq (tAsg (tOp rCat (tVar 1) (tLst (tas [tPr (cl 12), tPr (cl 13), tPr (cl 14)]))) (gName 1))
  (tRet (tLc (iList K (tVar 1)) (gTup K 2 (gCons (gName 2) (gCons (gName 3) gNil))) tYes (tRow K "value") [2, 3]))))))))
def rowsP (cl : Nat → Addr) (v : V) (l : List Nat) : List VP := l.map fun i => PRow (cl i) v
def spRows (cl : Nat → Addr) (n : Nat) : Sp := fun vs H Q _ => ∃ v, vs = [v] ∧ ∀ p xs H', H p = none → Ex H (delH H' p) → H' p = some (.lst xs) → AllP (delH H' p) (rowsP cl v (List.range n)) xs → Q (.ref p) H'
theorem prs {l : List Nat} (h0 : σ[0]? = some (some v)) : EvMs (tas (l.map fun i => tPr (cl i))) σ H (l.map fun i => PPair (cl i) "value" v) := by
  induction l with
  | nil => exact ems_nil
  | cons i l ih => exact ems_cons grows_pair (em_pr h0) ih
theorem gPair (l : List Nat) : GrowsAll (l.map fun i => PPair (cl i) "value" v) := GrowsAll.map (fun _ => grows_pair) l
/-- found = found + [..] -/
theorem more_pairs {tz : TS} {D : Ends} {l m : List Nat} {x y z : Option V} {u : V} (hl : l.length + m.length ≤ 100) (p : PL (l.map fun i => PPair (cl i) "value" v) u H)
    (k : ∀ u' H1, Ex H H1 → PL ((l ++ m).map fun i => PPair (cl i) "value" v) u' H1 → tz D [some v, some u', y, z] H1) :
    tSeq (tAsg (tOp rCat (tVar 1) (tLst (tas (m.map fun i => tPr (cl i))))) (gName 1)) tz D [some v, some u, y, z] H := by
  refine q_asg (P := PL ((l ++ m).map fun i => PPair (cl i) "value" v)) ?_ fun u' H1 e p1 => k u' H1 e p1
  rw [List.map_append]
  exact em_cat (gPair l) (gPair m) (em_var (v := u) rfl fun H' e => grows_PL (gPair l) _ _ _ e p) (em_PL (gPair m) (prs rfl) (by rw [List.length_map]; omega)) (by rw [List.length_map, List.length_map]; omega)
theorem pure_valued (T : ErrTab K cl S) (vs : List V) (H : Hp) (Q : VK) (E : XK) (h : spRows cl 15 vs H Q E) : t_valued K cl { nx := fun _ H' => Q .non H', rt := Q } (start NVal vs) H := by
  obtain ⟨v, rfl, k⟩ := h
  unfold t_valued
  refine q_asg (P := PL (([0, 1] : List Nat).map fun i => PPair (cl i) "value" v)) (em_PL (gPair [0, 1]) (prs (l := [0, 1]) rfl) (by show 2 ≤ 1000; decide)) fun u1 H1 e1 p1 => ?_
  refine more_pairs (l := [0, 1]) (m := [2, 3]) (x := none) (y := none) (z := none) (by decide) p1 fun u2 H2 e2 p2 => ?_
  refine more_pairs (l := [0, 1, 2, 3]) (m := [4, 5]) (x := none) (y := none) (z := none) (by decide) p2 fun u3 H3 e3 p3 => ?_
  refine more_pairs (l := [0, 1, 2, 3, 4, 5]) (m := [6, 7]) (x := none) (y := none) (z := none) (by decide) p3 fun u4 H4 e4 p4 => ?_
  refine more_pairs (l := [0, 1, 2, 3, 4, 5, 6, 7]) (m := [8, 9]) (x := none) (y := none) (z := none) (by decide) p4 fun u5 H5 e5 p5 => ?_
  refine more_pairs (l := [0, 1, 2, 3, 4, 5, 6, 7, 8, 9]) (m := [10, 11]) (x := none) (y := none) (z := none) (by decide) p5 fun u6 H6 e6 p6 => ?_
  refine more_pairs (l := [0, 1, 2, 3, 4, 5, 6, 7, 8, 9, 10, 11]) (m := [12, 13, 14]) (x := none) (y := none) (z := none) (by decide) p6 fun u7 H7 e7 p7 => ?_
  have e07 := ex_tr (ex_tr (ex_tr (ex_tr (ex_tr (ex_tr e1 e2) e3) e4) e5) e6) e7
  refine q_ret (P := fun x H' => ∃ p xs, x = .ref p ∧ H p = none ∧ Ex H (delH H' p) ∧ H' p = some (.lst xs) ∧ AllP (delH H' p) (rowsP cl v (List.range 15)) xs) ?_ fun x H8 e8 ⟨p, xs, ex, hn, he, hp, ha⟩ => ex ▸ k p xs H8 hn he hp ha
  refine em_lc (Ps := (List.range 15).map fun i => PPair (cl i) "value" v) (gPair _) (Rs := (List.range 15).map fun i => PRow (cl i) v) (GrowsAll.map (fun _ => grows_row) _) (by rw [List.length_map, List.length_map]) (by rw [List.length_map]; decide) (em_var (v := u7) rfl fun H' e => grows_PL (gPair _) _ _ _ e p7)
    (fun D i P R x H' hD hE hP hR px => ?_) fun D ys H' hn hE hp ha => ⟨D, ys, rfl, back e07 hn, ex_tr e07 hE, hp, ha⟩
  rw [List.getElem?_map] at hP hR
  obtain ⟨j, hj, rfl⟩ := Option.map_eq_some_iff.mp hP
  obtain ⟨j', hj', rfl⟩ := Option.map_eq_some_iff.mp hR
  rw [hj] at hj'
  cases hj'
  have hj15 : j < 15 := by
    have := List.mem_of_getElem? hj
    exact List.mem_range.mp this
  obtain ⟨p, a, b, rfl, hp, ha, hb⟩ := px
  refine ⟨[some v, some u7, some (.ref a), some (.ref b)], fun Q q => ?_, rfl, em_row (T.is j (by omega)) (by have := T.no j (by omega); unfold fldOf at this; rw [if_pos hj15] at this; exact this) hD rfl rfl ha hb⟩
  exact ⟨p, _, rfl, SqT.of (ex_del p _ hp), rfl, _, _, rfl, _, _, rfl, rfl, q⟩
end
end Tp

set_option maxHeartbeats 400000
namespace Tp
open PySem PySem.Spec PyProof.Rows L2
section
variable {K : PySem.W.Frag} {cl : Nat → Addr} {S : Addr} {σ : L2.St} {H : Hp} {v : V}
/-! ### _law_kept -/
abbrev tTwo (C : Addr) (f : Str) : TS := tPar 2 3 (tCons (tE C f) (tCons (tE C f) tNil))
abbrev tApp (K : PySem.W.Frag) (f : Str) : TS := tDrop (tBM K "list" rAppend (tVar 1) (tCons (tRow K f) tNil))
def t_kept (K : PySem.W.Frag) (cl : Nat → Addr) : TS :=
  tSeq (tAsg (tCall (spRows cl 15) [] E0 (tCons (tVar 0) tNil)) (gName 1))
  (tSeq (tTwo (cl 15) "number") (tSeq (tApp K "number") (tSeq (tTwo (cl 16) "many") (tSeq (tApp K "many") (tSeq (tTwo (cl 17) "line")
  (tRet (tOp rCat (tVar 1) (tLst (tas [tRow K "line"])))))))))
theorem rows_snoc (n : Nat) : rowsP cl v (List.range (n + 1)) = rowsP cl v (List.range n) ++ [PRow (cl n) v] := by
  unfold rowsP
  rw [List.range_succ, List.map_append]
  rfl
theorem gRows (l : List Nat) : GrowsAll (rowsP cl v l) := GrowsAll.map (fun _ => grows_row) l
theorem q_par {ta : TA} {tz : TS} {D : Ends} {Ps : List VP} {i j : Nat} (h : EvMs ta σ H Ps) (k : ∀ vs H1, Ex H H1 → AllP H1 Ps vs → ∃ v w, vs = [v, w] ∧ tz D ((σ.set i (some v)).set j (some w)) H1) : tSeq (tPar i j ta) tz D σ H := h H (Ex.refl H) _ k
/-- the rows so far at q, none of them leaning on q -/
def Rows (cl : Nat → Addr) (v : V) (H0 : Hp) (q : Addr) (n : Nat) (H : Hp) : Prop := H0 q = none ∧ Ex H0 (delH H q) ∧ ∃ xs, H q = some (.lst xs) ∧ AllP (delH H q) (rowsP cl v (List.range n)) xs
theorem two_step {H0 : Hp} {q : Addr} {n : Nat} {tz : TS} {D : Ends} {C : Addr} {f : Str} {y z : Option V} (h : Rows cl v H0 q n H)
    (k : ∀ a b H1, Rows cl v H0 q n H1 → ErrF (delH H1 q) a C f v → ErrF (delH H1 q) b C f v → tz D [some v, some (.ref q), some (.ref a), some (.ref b)] H1) : tSeq (tTwo C f) tz D [some v, some (.ref q), y, z] H := by
  obtain ⟨hn, he, xs, hq, ha⟩ := h
  have hq' : H q ≠ none := fun e => by rw [hq] at e; cases e
  have g : Grows (fun x H' => PErr C f v x (delH H' q)) := fun x A B e ⟨a, h1, h2⟩ => ⟨a, h1, errF_grow (ex_dels e) h2⟩
  have one : EvM (tE C f) [some v, some (.ref q), y, z] H (fun x H' => PErr C f v x (delH H' q)) := fun H1 e Q k =>
    ⟨v, rfl, v, rfl, fun a dx na nd ne => by
      have x1 : Ex H1 (upd (upd H1 dx (exd dx [(f, v)])) a (exo a C (some dx))) := ex_tr (Ex.new nd) (Ex.new (by rw [upd_ne (Ne.symm ne)]; exact na))
      have n1 : a ≠ q := fun z => by rw [z] at na; rw [e q _ hq] at na; cases na
      have n2 : dx ≠ q := fun z => by rw [z] at nd; rw [e q _ hq] at nd; cases nd
      refine k _ _ x1 ⟨a, rfl, dx, by rw [delH_ne n1]; exact upd_same, ?_⟩
      rw [delH_ne n2, upd_ne ne]
      exact upd_same⟩
  refine q_par (ems_cons (Ps := [fun x H' => PErr C f v x (delH H' q)]) g one (ems_cons g one ems_nil)) fun vs H1 e1 al => ?_
  obtain ⟨x, u, rfl, ⟨a, rfl, ea⟩, ⟨b, rfl, eb⟩⟩ := allP2 al
  exact ⟨_, _, rfl, k a b H1 ⟨hn, ex_tr he (ex_dels e1), xs, e1 q _ hq, ha.grow (ex_dels e1) (gRows _)⟩ ea eb⟩
theorem app_step {H0 : Hp} {q a b : Addr} {n : Nat} {tz : TS} {D : Ends} {f : Str} (hn : n < 100) (h : Rows cl v H0 q n H) (T : XIs K (cl n)) (no : PySem.W.findIn K (.ref (cl n)) f = some none) (ea : ErrF (delH H q) a (cl n) f v) (eb : ErrF (delH H q) b (cl n) f v)
    (k : ∀ H1, Rows cl v H0 q (n + 1) H1 → tz D [some v, some (.ref q), some (.ref a), some (.ref b)] H1) : tSeq (tApp K f) tz D [some v, some (.ref q), some (.ref a), some (.ref b)] H := by
  obtain ⟨h0, he, xs, hq, ha⟩ := h
  have hq' : H q ≠ none := fun e => by rw [hq] at e; cases e
  refine ⟨_, rfl, .inl ⟨rfl, xs, SqL.of hq⟩, ?_⟩
  have g : Grows (fun x H' => PRow (cl n) v x (delH H' q)) := fun x A B e px => grows_row x _ _ (ex_dels e) px
  refine ems_cons (Ps := []) g (em_row (σ := [some v, some (.ref q), some (.ref a), some (.ref b)]) T no hq' rfl rfl ea eb) ems_nil H (Ex.refl H) _ fun us H1 e1 al => ?_
  obtain ⟨x, rfl, px⟩ : ∃ x, us = [x] ∧ PRow (cl n) v x (delH H1 q) := by
    cases al with
    | cons h1 h2 =>
      cases h2
      exact ⟨_, rfl, h1⟩
  have hl : xs.length = n := by
    rw [ha.len]
    unfold rowsP
    rw [List.length_map, List.length_range]
  refine ⟨q, xs, x, rfl, rfl, e1 q _ hq, Nat.lt_of_lt_of_le (show xs.length < 100 by omega) (by decide), k _ ⟨h0, ?_, xs ++ [x], upd_same, ?_⟩⟩
  · rw [del_upd]
    exact ex_tr he (ex_dels e1)
  · rw [del_upd, rows_snoc]
    exact (ha.grow (ex_dels e1) (gRows _)).app (.cons px .nil)
theorem pure_kept (T : ErrTab K cl S) (vs : List V) (H : Hp) (Q : VK) (E : XK) (h : spRows cl 18 vs H Q E) : t_kept K cl { nx := fun _ H' => Q .non H', rt := Q } (start NVal vs) H := by
  obtain ⟨v, rfl, k⟩ := h
  refine ⟨_, rfl, v, rfl, fun q xs H1 hn he hq ha => ?_⟩
  have h1 : Rows cl v H q 15 H1 := ⟨hn, he, xs, hq, ha⟩
  refine two_step (y := none) (z := none) h1 fun a b H2 h2 ea eb => ?_
  refine app_step (by decide) h2 (T.is 15 (by decide)) (T.no 15 (by decide)) ea eb fun H3 h3 => ?_
  refine two_step h3 fun a b H4 h4 ea eb => ?_
  refine app_step (by decide) h4 (T.is 16 (by decide)) (T.no 16 (by decide)) ea eb fun H5 h5 => ?_
  refine two_step h5 fun a b H6 h6 ea eb => ?_
  obtain ⟨_, he6, ys, hq6, ha6⟩ := h6
  have hq' : H6 q ≠ none := fun e => by rw [hq6] at e; cases e
  have g : Grows (fun x H' => PRow (cl 17) v x (delH H' q)) := fun x A B e px => grows_row x _ _ (ex_dels e) px
  refine ⟨_, rfl, ?_⟩
  refine em_PL (Ps := [fun x H' => PRow (cl 17) v x (delH H' q)]) (.cons g .nil) (ems_cons g (em_row (T.is 17 (by decide)) (T.no 17 (by decide)) hq' rfl rfl ea eb) ems_nil) (by show 1 ≤ 1000; decide) H6 (Ex.refl H6) _ fun u H7 e7 pu => ?_
  obtain ⟨r, zs, rfl, hr, hz⟩ := pu
  have hl : ys.length = 17 := by
    rw [ha6.len]
    unfold rowsP
    rw [List.length_map, List.length_range]
  have hlz : zs.length = 1 := hz.len
  refine ⟨q, r, ys, zs, rfl, rfl, e7 q _ hq6, hr, by rw [hl, hlz]; decide, fun p hp => ?_⟩
  have x1 : Ex (delH H7 q) (upd H7 p (.lst (ys ++ zs))) := ex_tr ex_del (Ex.new hp)
  have np : delH H7 q p = none := back ex_del hp
  have x2 := ex_del2 np x1
  have x3 : Ex H (delH (upd H7 p (.lst (ys ++ zs))) p) := ex_tr (ex_tr he6 (ex_dels e7)) x2
  refine k p (ys ++ zs) _ (back (ex_tr he6 (ex_dels e7)) np) x3 upd_same ?_
  rw [show (18 : Nat) = 17 + 1 from rfl, rows_snoc]
  refine AllP.app ((ha6.grow (ex_dels e7) (gRows _)).grow x2 (gRows _)) ?_
  cases hz with
  | cons h1 h2 =>
    cases h2
    exact .cons (grows_row _ _ _ x2 h1) .nil

/-! ### _law_sorts -/
abbrev NSort : List Str := ["error", "found"]
abbrev tIs (K : PySem.W.Frag) (C : Addr) : TE := tCB (rIsX K) (tCons (tVar 0) (tCons (tC (.ref C)) tNil))
def isL (K : PySem.W.Frag) (cl : Nat → Addr) (l : List Nat) : TE := tLst (tas (l.map fun j => tIs K (cl j)))
def t_sorts (K : PySem.W.Frag) (cl : Nat → Addr) : TS :=
  tSeq (tAsg (isL K cl [0, 1, 2, 3]) (gName 1))
  (tSeq (tAsg (tOp rCat (tVar 1) (isL K cl [4, 5, 6, 7])) (gName 1))
  (tSeq (tAsg (tOp rCat (tVar 1) (isL K cl [8, 9, 10, 11])) (gName 1))
  (tSeq (tAsg (tOp rCat (tVar 1) (isL K cl [12, 13, 14, 15])) (gName 1))
  (tSeq (tAsg (tOp rCat (tVar 1) (isL K cl [16, 17, 18, 19])) (gName 1))
  (tRet (tOp rCat (tVar 1) (isL K cl [20, 21, 22, 23])))))))
def bitsOf (i : Nat) : List V := (List.range 24).map fun j => V.bl (decide (j = i))
def spSorts (cl : Nat → Addr) : Sp := fun vs H Q _ => ∃ (a : Addr) (i : Nat), vs = [.ref a] ∧ i < 24 ∧ ErrAt H a (cl i) ∧ ∀ p H', H p = none → Ex H H' → H' p = some (.lst (bitsOf i)) → Q (.ref p) H'
abbrev bitP (i : Nat) (l : List Nat) : List VP := l.map fun j => (fun x _ => x = V.bl (decide (j = i)))
theorem gBit (i : Nat) (l : List Nat) : GrowsAll (bitP i l) := GrowsAll.map (fun _ => grows_eq) l
theorem bits_eq {i : Nat} : ∀ {l : List Nat} {xs : List V}, AllP H (bitP i l) xs → xs = l.map fun j => V.bl (decide (j = i))
  | [], _, h => by cases h; rfl
  | j :: l, _, h => by
    cases h with
    | cons h1 h2 => rw [List.map_cons, h1, bits_eq h2]
theorem ems_is (T : ErrTab K cl S) {a : Addr} {i : Nat} (hi : i < 24) (h0 : σ[0]? = some (some (.ref a))) (ha : ErrAt H a (cl i)) : ∀ {l : List Nat}, (∀ j ∈ l, j < 24) → EvMs (tas (l.map fun j => tIs K (cl j))) σ H (bitP i l)
  | [], _ => ems_nil
  | j :: l, hl => ems_cons grows_eq (em_isx (T.is i hi) ha (.own (cl j)) (T.kit i j hi (hl j List.mem_cons_self)) (em_var h0 fun _ _ => rfl) (em_c fun _ _ => rfl) fun _ _ => rfl) (ems_is T hi h0 ha fun k hk => hl k (List.mem_cons_of_mem _ hk))
theorem em_isL (T : ErrTab K cl S) {a : Addr} {i : Nat} (hi : i < 24) (h0 : σ[0]? = some (some (.ref a))) (ha : ErrAt H a (cl i)) {l : List Nat} (hl : ∀ j ∈ l, j < 24) (hz : l.length ≤ 100) : EvM (isL K cl l) σ H (PL (bitP i l)) :=
  em_PL (gBit i l) (ems_is T hi h0 ha hl) (by rw [List.length_map]; omega)
theorem more_bits (T : ErrTab K cl S) {tz : TS} {D : Ends} {l m : List Nat} {a : Addr} {u : V} {i : Nat} (hi : i < 24) (ha : ErrAt H a (cl i)) (hm : ∀ j ∈ m, j < 24) (hl : l.length + m.length ≤ 100) (p : PL (bitP i l) u H)
    (k : ∀ u' H1, Ex H H1 → PL (bitP i (l ++ m)) u' H1 → tz D [some (.ref a), some u'] H1) : tSeq (tAsg (tOp rCat (tVar 1) (isL K cl m)) (gName 1)) tz D [some (.ref a), some u] H := by
  refine q_asg (P := PL (bitP i (l ++ m))) ?_ fun u' H1 e p1 => k u' H1 e p1
  show EvM _ _ _ (PL (List.map _ (l ++ m)))
  rw [List.map_append]
  exact em_cat (gBit i l) (gBit i m) (em_var (v := u) rfl fun H' e => grows_PL (gBit i l) _ _ _ e p) (em_isL T hi rfl ha hm (by omega)) (by rw [List.length_map, List.length_map]; omega)
theorem pure_sorts (T : ErrTab K cl S) (vs : List V) (H : Hp) (Q : VK) (E : XK) (h : spSorts cl vs H Q E) : t_sorts K cl { nx := fun _ H' => Q .non H', rt := Q } (start NSort vs) H := by
  obtain ⟨a, i, rfl, hi, ha, k⟩ := h
  unfold t_sorts
  refine q_asg (P := PL (bitP i [0, 1, 2, 3])) (em_isL T hi rfl ha (by decide) (by decide)) fun u1 H1 e1 p1 => ?_
  refine more_bits T (l := [0, 1, 2, 3]) (m := [4, 5, 6, 7]) hi (errAt_grow e1 ha) (by decide) (by decide) p1 fun u2 H2 e2 p2 => ?_
  have f2 := ex_tr e1 e2
  refine more_bits T (l := [0, 1, 2, 3, 4, 5, 6, 7]) (m := [8, 9, 10, 11]) hi (errAt_grow f2 ha) (by decide) (by decide) p2 fun u3 H3 e3 p3 => ?_
  have f3 := ex_tr f2 e3
  refine more_bits T (l := [0, 1, 2, 3, 4, 5, 6, 7, 8, 9, 10, 11]) (m := [12, 13, 14, 15]) hi (errAt_grow f3 ha) (by decide) (by decide) p3 fun u4 H4 e4 p4 => ?_
  have f4 := ex_tr f3 e4
  refine more_bits T (l := [0, 1, 2, 3, 4, 5, 6, 7, 8, 9, 10, 11, 12, 13, 14, 15]) (m := [16, 17, 18, 19]) hi (errAt_grow f4 ha) (by decide) (by decide) p4 fun u5 H5 e5 p5 => ?_
  have f5 := ex_tr f4 e5
  obtain ⟨q, xs, rfl, hq, hx⟩ := p5
  refine ⟨_, rfl, em_isL T hi rfl (errAt_grow f5 ha) (by decide) (by decide) H5 (Ex.refl H5) _ fun w H6 e6 ⟨r, ys, ew, hr, hy⟩ => ?_⟩
  have hlx : xs.length = 20 := hx.len
  have hly : ys.length = 4 := hy.len
  refine ⟨q, r, xs, ys, rfl, ew, e6 q _ hq, hr, by rw [hlx, hly]; decide, fun p hp => ?_⟩
  have n6 := Ex.new (o := .lst (xs ++ ys)) hp
  refine k p _ (back (ex_tr f5 e6) hp) (ex_tr (ex_tr f5 e6) n6) ?_
  rw [upd_same, bits_eq hx, bits_eq hy]
  rfl
end
end Tp

set_option maxHeartbeats 400000
namespace Tp
open PySem PySem.Spec PyProof.Rows L2
section
variable {K : PySem.W.Frag} {cl : Nat → Addr} {S : Addr} {σ : L2.St} {H : Hp} {v : V} {te : TE} {vs : List Nat}
/-- a comprehension over a range, each item's value by a word of its own -/
theorem em_lcW {wi : TI} {lo : Int} {n : Nat} {R : Nat → VP} {j : Nat} {PO : VP} (hn : n ≤ 1000) (gR : ∀ i, Grows (R i)) (hw : ∀ H1, Ex H H1 → ∀ T : It → Hp → Prop, (∀ H2, Ex H1 H2 → T (Itr lo n) H2) → wi σ H1 T)
    (hwp : ∀ x, wipe ((wipe σ vs).set j (some x)) vs = wipe σ vs) (body : ∀ (D : Addr) (i : Nat) (H1 : Hp), H1 D ≠ none → i < n → EvM te ((wipe σ vs).set j (some (.int (lo + i)))) H1 (fun v H' => R i v (delH H' D)))
    (k : ∀ D ys H', H D = none → Ex H (delH H' D) → H' D = some (.lst ys) → AllP (delH H' D) ((List.range n).map R) ys → PO (.ref D) H') :
    EvM (tLc wi (gName j) tYes te vs) σ H PO := fun H1 e Q q =>
  hw H1 e _ fun H2 e2 D hD => by
    have g : ∀ m, GrowsAll ((List.range m).map R) := fun m => GrowsAll.map gR _
    refine lc_range (lo := lo) (n := n) (fun i H' => ∃ ys, H' D = some (.lst ys) ∧ AllP (delH H' D) ((List.range i).map R) ys ∧ Ex H2 (delH H' D)) ⟨[], upd_same, .nil, fun a o ho => by rw [del_upd, delH_ne (ne_of_none ho hD)]; exact ho⟩ ?_ ?_
    · rintro i H' hi ⟨ys, hy, hall, e3⟩
      refine ⟨hwp _, ?_⟩
      simp only [tYes, ↓reduceIte]
      refine body D i H' (fun z => by rw [hy] at z; cases z) hi H' (Ex.refl H') _ fun y H4 e4 ey => ⟨ys, e4 D _ hy, ?_, ys ++ [y], upd_same, ?_, ?_⟩
      · have z := hall.len
        rw [List.length_map, List.length_range] at z
        exact Nat.lt_of_le_of_lt (show ys.length ≤ 1000 by omega) (by decide)
      · rw [del_upd, List.range_succ, List.map_append]
        exact (hall.grow (ex_dels e4) (g i)).app (.cons ey .nil)
      · rw [del_upd]
        exact ex_tr e3 (ex_dels e4)
    · rintro H' ⟨ys, hy, hall, e3⟩
      exact q _ H' (ex_tr e2 (ex_tr e3 ex_del)) (k D ys H' (back (ex_tr e e2) hD) (ex_tr (ex_tr e e2) e3) hy hall)
theorem rng1 {n : Int} (h : 0 ≤ n ∧ n ≤ 1000) : ∀ H1 : Hp, Ex H H1 → ∀ T : It → Hp → Prop, (∀ H2, Ex H1 H2 → T (Itr 0 n.toNat) H2) → iRng1 (tCons (c n) tNil) σ H1 T := fun H1 _ T q => ⟨n, rfl, by omega, by omega, q H1 (Ex.refl H1)⟩
theorem rng2 {a b : Int} (h : 0 ≤ a ∧ a ≤ 1000) (h2 : 0 ≤ b ∧ b ≤ 1000) : ∀ H1 : Hp, Ex H H1 → ∀ T : It → Hp → Prop, (∀ H2, Ex H1 H2 → T (Itr a (b - a).toNat) H2) → iRng2 (tCons (c a) (tCons (c b) tNil)) σ H1 T :=
  fun H1 _ T q => ⟨a, b, rfl, ⟨by omega, by omega, by omega, by omega⟩, q H1 (Ex.refl H1)⟩

/-! ### bits as data -/
def bitsD (l : List Bool) : PyData := .list (l.map PyData.bool)
theorem dp_bits (l : List Bool) : DpAll K H (l.map V.bl) (l.map PyData.bool) := by
  induction l with
  | nil => exact .nil
  | cons b l ih => exact .cons (.bl b) ih
def bitB (i : Nat) : List Bool := (List.range 24).map fun j => decide (j = i)
theorem bitsOf_eq (i : Nat) : bitsOf i = (bitB i).map V.bl := by
  unfold bitsOf bitB
  rw [List.map_map]
  rfl
theorem canLay_bits (l : List Bool) : PyData.canLay0 (bitsD l) = true ∧ PyData.depth (bitsD l) ≤ 1 := by
  unfold bitsD
  simp only [PyData.canLay0, PyData.depth]
  have h : ∀ l : List Bool, PyData.canLayAll0 (l.map PyData.bool) = true ∧ PyData.depthAll (l.map PyData.bool) = 0 := by
    intro l
    induction l with
    | nil => exact ⟨rfl, rfl⟩
    | cons b l ih =>
      simp only [List.map_cons, PyData.canLayAll0, PyData.depthAll, PyData.canLay0, PyData.depth, ih.1, ih.2]
      exact ⟨rfl, rfl⟩
  exact ⟨(h l).1, by rw [(h l).2]; decide⟩
theorem wipe1 (σ : L2.St) (j : Nat) (x : V) : wipe ((wipe σ [j]).set j (some x)) [j] = wipe σ [j] := by
  show ((σ.set j none).set j (some x)).set j none = σ.set j none
  rw [List.set_set, List.set_set]
abbrev tBits : TE := tLc (iRng1 (tCons (c 24) tNil)) (gName 10) tYes (tOp rEq (tVar 10) (tVar 6)) [10]
def PBits (i : Nat) : VP := fun x H => ∃ p, x = .ref p ∧ H p = some (.lst (bitsOf i))
theorem grows_bits {i : Nat} : Grows (PBits i) := fun _ _ _ e ⟨p, h1, h2⟩ => ⟨p, h1, e _ _ h2⟩
theorem em_bits {i : Nat} {PO : VP} (h10 : 10 < σ.length) (h6 : σ[6]? = some (some (.int (i : Int)))) (k : ∀ p H', H p = none → Ex H (delH H' p) → H' p = some (.lst (bitsOf i)) → PO (.ref p) H') : EvM tBits σ H PO := by
  refine em_lcW (lo := 0) (n := 24) (R := fun j x _ => x = V.bl (decide (j = i))) (by decide) (fun _ => grows_eq) (rng1 (n := 24) (by decide)) (wipe1 σ 10) (fun D j H1 _ _ => ?_) fun D ys H' hn he hp ha => k D H' hn he ?_
  · have e10 : ((wipe σ [10]).set 10 (some (.int (0 + (j : Int)))))[10]? = some (some (.int (0 + (j : Int)))) := by
      rw [List.getElem?_set_self]
      show 10 < (σ.set 10 none).length
      rw [List.length_set]
      exact h10
    have e6 : ((wipe σ [10]).set 10 (some (.int (0 + (j : Int)))))[6]? = some (some (.int (i : Int))) := by
      rw [List.getElem?_set_ne (by decide)]
      show (σ.set 10 none)[6]? = _
      rw [List.getElem?_set_ne (by decide)]
      exact h6
    intro H2 e Q q
    refine ⟨_, e10, _, e6, rfl, q _ H2 (Ex.refl H2) ?_⟩
    congr 1
    rw [decide_eq_decide]
    constructor
    · intro h
      have := V.int.inj h
      omega
    · intro h
      rw [h]
      simp
  · rw [hp, bitsOf]
    have e : ∀ {l : List Nat} {xs : List V} {Hq : Hp}, AllP Hq (l.map fun j => (fun x _ => x = V.bl (decide (j = i)))) xs → xs = l.map fun j => V.bl (decide (j = i)) := fun {l xs Hq} h => bits_eq h
    rw [e ha]
theorem em_sorts {i : Nat} {e : Addr} {PO : VP} (h8 : σ[8]? = some (some (.ref e))) (hi : i < 24) (he : ErrAt H e (cl i)) (k : ∀ p H', H p = none → Ex H H' → H' p = some (.lst (bitsOf i)) → PO (.ref p) H') :
    EvM (tCall (spSorts cl) [] E0 (tCons (tVar 8) tNil)) σ H PO := fun H1 e1 Q q =>
  ⟨_, h8, e, i, rfl, hi, errAt_grow e1 he, fun p H' hn hx hp => q _ H' hx (k p H' (back e1 hn) (ex_tr e1 hx) hp)⟩
theorem shaped_bits (l : List Bool) : SeqAt.shaped (bitsD l) = true := by
  obtain ⟨h1, h2⟩ := canLay_bits l
  exact Bool.and_eq_true_iff.mpr ⟨h1, decide_eq_true (by omega)⟩
theorem test_sorts {i : Nat} {e : Addr} (h10 : 10 < σ.length) (h6 : σ[6]? = some (some (.int (i : Int)))) (h8 : σ[8]? = some (some (.ref e))) (hi : i < 24) (he : ErrAt H e (cl i)) :
    Evl.EvT (tTest (tOp (rNeD K) (tCall (spSorts cl) [] E0 (tCons (tVar 8) tNil)) tBits)) σ H false := fun H1 e1 Q q =>
  em_sorts (PO := PBits i) h8 hi (errAt_grow e1 he) (fun p H' _ _ hp => ⟨p, rfl, hp⟩) H1 (Ex.refl H1) _ fun x H2 e2 ⟨p, ex, hp⟩ =>
    em_bits (PO := PBits i) h10 h6 (fun p H' _ _ hp => ⟨p, rfl, hp⟩) H2 (Ex.refl H2) _ fun y H3 e3 ⟨r, ey, hr⟩ => by
      subst ex ey
      rw [bitsOf_eq] at hp hr
      refine ⟨bitsD (bitB i), bitsD (bitB i), .lst (SqL.of (e3 p _ hp)) (dp_bits _), .lst (SqL.of hr) (dp_bits _), shaped_bits _, shaped_bits _, false, ?_, q H3 (ex_tr e2 e3)⟩
      rw [SeqAt.eqv_refl _ (canLay_bits _).1]
      rfl
/-! ### the two isinstance tests -/
abbrev tIsS (K : PySem.W.Frag) (S : Addr) : TE := tCB (rIsX K) (tCons (tVar 8) (tCons (tC (.ref S)) tNil))
abbrev tIsV (K : PySem.W.Frag) : TE := tCB (rIsX K) (tCons (tVar 8) (tCons (tC (.ty "ValueError")) tNil))
theorem em_isS (T : ErrTab K cl S) {i : Nat} {e : Addr} (hi : i < 24) (h8 : σ[8]? = some (some (.ref e))) (he : ErrAt H e (cl i)) : EvM (tIsS K S) σ H (fun v _ => v = .bl true) :=
  em_isx (T.is i hi) he (.own S) (T.spark i hi) (em_var h8 fun _ _ => rfl) (em_c fun _ _ => rfl) fun _ _ => rfl
theorem em_isV (T : ErrTab K cl S) {i : Nat} {e : Addr} (hi : i < 24) (h8 : σ[8]? = some (some (.ref e))) (he : ErrAt H e (cl i)) : EvM (tIsV K) σ H (fun v _ => v = .bl true) :=
  em_isx (T.is i hi) he (.ty _) (T.val i hi) (em_var h8 fun _ _ => rfl) (em_c fun _ _ => rfl) fun _ _ => rfl
theorem ev_of {v : V} (h : EvM te σ H (fun u _ => u = v)) : Evl.Ev te σ H v := fun H1 e Q q => h H1 e Q fun u H2 e2 eu => by
  rw [eu]
  exact q H2 e2
theorem test_is (T : ErrTab K cl S) {i : Nat} {e : Addr} (hi : i < 24) (h8 : σ[8]? = some (some (.ref e))) (he : ErrAt H e (cl i)) : Evl.EvT (tOr (tNot (tB (tIsS K S))) (tNot (tB (tIsV K)))) σ H false :=
  Evl.et_or (a := false) (b := false) (Evl.et_not (a := true) (Evl.et_B (ev_of (em_isS T hi h8 he)))) fun _ => Evl.et_not (a := true) (Evl.et_B (ev_of (em_isV T hi h8 he)))
/-! ### the reprs -/
theorem em_repr {v : V} {d : PyData} (he : EvM te σ H (fun u _ => u = v)) (hD : Dat K H v d) (hf : d.showable = true ∧ d.shown.length ≤ sizeLine ∧ d.depth ≤ 60 ∧ PyData.strOk d.shown = true) : EvM (tCB (rRepr K) (tCons te tNil)) σ H (fun u _ => u = .str d.shown) := fun H1 e Q q =>
  he H1 e _ fun u H2 e2 eu => ⟨v, d, by rw [eu], dat_grow (ex_tr e e2) hD, hf.1, hf.2.1, hf.2.2.1, q _ H2 e2 rfl⟩
theorem em_ixT {ta tb : TE} {p : Addr} {xs : List V} {i : Nat} {v : V} (ha : EvM ta σ H (fun u _ => u = .ref p)) (hb : EvM tb σ H (fun u _ => u = .int (i : Int))) (hp : H p = some (.tup xs)) (hi : xs[i]? = some v) : EvM (tOp (rIxT K) ta tb) σ H (fun u _ => u = v) := fun H1 e Q q =>
  ha H1 e _ fun u H2 e2 eu => hb H2 (ex_tr e e2) _ fun w H3 e3 ew => ⟨p, xs, (i : Int), v, eu, ew, SqT.of ((ex_tr (ex_tr e e2) e3) p _ hp), atI_nat hi, q _ H3 (ex_tr e2 e3) rfl⟩
abbrev tReprs (K : PySem.W.Frag) : TT := tTest (tOp (rNeD K) (tLst (tas [tCB (rRepr K) (tCons (tOp (rIxT K) (tVar 7) (c 2)) tNil), tCB (rRepr K) (tCons (tOp (rIxT K) (tVar 7) (c 3)) tNil), tCB (rRepr K) (tCons (tVar 4) tNil)])) (tOp rRep (tLst (tas [tVar 5])) (c 3)))
def strD (x : Str) : PyData := .list [.str x, .str x, .str x]
theorem str_lay {x : Str} (h : PyData.strOk x = true) : PyData.canLay0 (strD x) = true := by simp [strD, PyData.canLay0, PyData.canLayAll0, h]
theorem str_ok {x : Str} (h : PyData.strOk x = true) : SeqAt.shaped (strD x) = true ∧ PyData.canLay0 (strD x) = true := ⟨Bool.and_eq_true_iff.mpr ⟨str_lay h, decide_eq_true (by simp [strD, PyData.depth, PyData.depthAll])⟩, str_lay h⟩
theorem evt_op2 {r : R2} {ta tb : TE} {P P' : VP} {b : Bool} (ha : EvM ta σ H P) (hb : ∀ H1, Ex H H1 → EvM tb σ H1 P') (k : ∀ x y H2 H3, Ex H H2 → P x H2 → Ex H2 H3 → P' y H3 → ∀ Q : VK, (∀ H4, Ex H3 H4 → Q (.bl b) H4) → r x y H3 Q) :
    Evl.EvT (tTest (tOp r ta tb)) σ H b := fun H1 e Q q => ha H1 e _ fun x H2 e2 px => hb H2 (ex_tr e e2) H2 (Ex.refl H2) _ fun y H3 e3 py =>
    k x y H2 H3 (ex_tr e e2) px e3 py _ fun H4 e4 => ⟨b, rfl, q H4 (ex_tr (ex_tr e2 e3) e4)⟩
theorem allP3 {P Q R : VP} {vs : List V} (h : AllP H [P, Q, R] vs) : ∃ x y z, vs = [x, y, z] ∧ P x H ∧ Q y H ∧ R z H := by
  cases h with
  | cons h1 h2 =>
    obtain ⟨z, u, rfl, h5, h6⟩ := allP2 h2
    exact ⟨_, _, _, rfl, h1, h5, h6⟩
theorem test_reprs {v : V} {d : PyData} {p : Addr} {a b : V} (h4 : σ[4]? = some (some v)) (h5 : σ[5]? = some (some (.str d.shown))) (h7 : σ[7]? = some (some (.ref p))) (hp : H p = some (.tup [a, b, v, v])) (hD : Dat K H v d) (hf : d.showable = true ∧ d.shown.length ≤ sizeLine ∧ d.depth ≤ 60 ∧ PyData.strOk d.shown = true) :
    Evl.EvT (tReprs K) σ H false := by
  have g3 : GrowsAll [fun u _ => u = V.str d.shown, fun u _ => u = V.str d.shown, fun u _ => u = V.str d.shown] := .cons grows_eq (.cons grows_eq (.cons grows_eq .nil))
  refine evt_op2 (P := PL [fun u _ => u = V.str d.shown, fun u _ => u = V.str d.shown, fun u _ => u = V.str d.shown])
    (em_PL g3 (ems_cons grows_eq (em_repr (em_ixT (i := 2) (em_var h7 fun _ _ => rfl) em_ci hp rfl) hD hf) (ems_cons grows_eq (em_repr (em_ixT (i := 3) (em_var h7 fun _ _ => rfl) em_ci hp rfl) hD hf) (ems_cons grows_eq (em_repr (em_var h4 fun _ _ => rfl) hD hf) ems_nil))) (by show 3 ≤ 1000; decide))
    (P' := fun y H' => ∃ z, y = .ref z ∧ H' z = some (.lst [V.str d.shown, V.str d.shown, V.str d.shown])) (fun H1 _ => fun H2 e2 Q q => ?_) fun x y H2 H3 _ ⟨l, xs, ex, hl, hx⟩ e3 ⟨z, ey, hz⟩ Q q => ?_
  · refine em_PL (Ps := [fun u _ => u = V.str d.shown]) (.cons grows_eq .nil) (ems_cons grows_eq (em_var h5 fun _ _ => rfl) ems_nil) (by show 1 ≤ 1000; decide) H2 (Ex.refl H2) _ fun y H3 e3 ⟨r, ys, ey, hr, hy⟩ => ?_
    cases hy with
    | cons h1 h2 =>
      cases h2
      subst h1 ey
      exact ⟨r, 3, _, rfl, rfl, hr, by decide, by decide, by show 1 * 3 ≤ sizeLine; decide, fun z hz => q _ _ (ex_tr e3 (Ex.new hz)) ⟨z, rfl, upd_same⟩⟩
  · obtain ⟨x1, x2, x3, rfl, rfl, rfl, rfl⟩ := allP3 hx
    subst ex ey
    have da : ∀ H' : Hp, DpAll K H' [.str d.shown, .str d.shown, .str d.shown] [.str d.shown, .str d.shown, .str d.shown] := fun H' => .cons (.str _) (.cons (.str _) (.cons (.str _) .nil))
    refine ⟨strD d.shown, strD d.shown, .lst (SqL.of (e3 l _ hl)) (da _), .lst (SqL.of hz) (da _), (str_ok hf.2.2.2).1, (str_ok hf.2.2.2).1, ?_⟩
    rw [SeqAt.eqv_refl _ (str_ok hf.2.2.2).2]
    exact q H3 (Ex.refl H3)
end
end Tp

set_option maxHeartbeats 400000
namespace Tp
open PySem PySem.Spec PyProof.Rows L2
abbrev rMax2 : List V → Hp → VK → Prop := fun xs H Q => ∃ i j, xs = [V.int i, V.int j] ∧ Q (V.int (if j > i then j else i)) H
abbrev rMin2 : List V → Hp → VK → Prop := fun xs H Q => ∃ i j, xs = [V.int i, V.int j] ∧ Q (V.int (if j < i then j else i)) H
abbrev NLaw : List Str := ["script", "start", "tape", "turn", "thing", "seen", "at", "row", "error", "bare", "k"]
abbrev tF : TS := tRet (bl false)
abbrev tErrLoop (K : PySem.W.Frag) (cl : Nat → Addr) (S : Addr) : TS :=
  tSeq (tIfS (tOr (tNot (tB (tIsS K S))) (tNot (tB (tIsV K)))) tF tNext)
    (tIfS (tTest (tOp (rNeD K) (tCall (spSorts cl) [] E0 (tCons (tVar 8) tNil)) tBits)) tF tNext)
abbrev tRowLoop (K : PySem.W.Frag) (cl : Nat → Addr) (S : Addr) : TS :=
  tSeq (tFor (iTup K (tSl (rSlT K) (tVar 7) tNoPart (tPart (c 2)))) (gName 8) (tErrLoop K cl S)) (tIfS (tReprs K) tF tNext)
abbrev gAtRow (K : PySem.W.Frag) : TG := gTup K 2 (gCons (gName 6) (gCons (gName 7) gNil))
abbrev tTurn (K : PySem.W.Frag) (cl : Nat → Addr) (S : Addr) : TS :=
  tSeq (tAsg (tCall (spAny K) [] E0 (tCons (tVar 2) tNil)) (gName 4))
  (tSeq (tAsg (tCB (rRepr K) (tCons (tVar 4) tNil)) (gName 5))
  (tFor (iEnum K (tCons (tCall (spRows cl 18) [] E0 (tCons (tVar 4) tNil)) tNil)) (gAtRow K) (tRowLoop K cl S)))
abbrev tStart (K : PySem.W.Frag) (cl : Nat → Addr) (S : Addr) : TS :=
  tSeq (tAsg (tCall (spTape K) [] E0 (tCons (tVar 0) (tCons (tVar 1) tNil))) (gName 2)) (tFor (iRng1 (tCons (c 3) tNil)) (gName 3) (tTurn K cl S))
abbrev tCount (K : PySem.W.Frag) : TE := tCB rMax2 (tCons (c 1) (tCons (tCB rMin2 (tCons (c 2) (tCons (tCB (rLen K) (tCons (tVar 0) tNil)) tNil))) tNil))
abbrev tBare (cl : Nat → Addr) : TE := tLst (tas [tErr0 (cl 18), tErr0 (cl 19), tErr0 (cl 20), tErr0 (cl 21), tErr0 (cl 22), tErr0 (cl 23)])
abbrev tAllIs (K : PySem.W.Frag) (S : Addr) : TE := tLc (iList K (tVar 9)) (gName 8) tYes (tAndV (tIsS K S) (tIsV K)) [8]
abbrev tAllSorts (K : PySem.W.Frag) (cl : Nat → Addr) : TE := tLc (iList K (tVar 9)) (gName 8) tYes (tCall (spSorts cl) [] E0 (tCons (tVar 8) tNil)) [8]
abbrev tAllBits : TE := tLc (iRng2 (tCons (c 18) (tCons (c 24) tNil))) (gName 6) tYes tBits [6]
def t_law (K : PySem.W.Frag) (cl : Nat → Addr) (S : Addr) : TS :=
  tSeq (tFor (iRng1 (tCons (tCount K) tNil)) (gName 1) (tStart K cl S))
  (tSeq (tAsg (tBare cl) (gName 9))
  (tSeq (tIfS (tTest (tOp (rIn K false) (bl false) (tAllIs K S))) tF tNext)
  (tRet (tOp (rEqD K) (tAllSorts K cl) tAllBits))))
def spLaw (K : PySem.W.Frag) : Sp := fun vs H Q _ => ∃ (a : Addr) (ns : List Int), vs = [.ref a] ∧ Scr K H a ns ∧ ∀ H', Q (.bl true) H'
section
variable {K : PySem.W.Frag} {cl : Nat → Addr} {S : Addr} {H : Hp} {D : Ends}
theorem no_if {tt : TT} {σ : L2.St} {t u : TS} {P : Hp → Prop} (h : Evl.EvT tt σ H false) (k : ∀ H1, Ex H H1 → u D σ H1) : tIfS tt t u D σ H := h H (Ex.refl H) _ fun H1 e => iteF (k H1 e)
theorem q_noif {tt : TT} {σ : L2.St} {t tz : TS} (h : Evl.EvT tt σ H false) (k : ∀ H1, Ex H H1 → tz D σ H1) : tSeq (tIfS tt t tNext) tz D σ H := h H (Ex.refl H) _ fun H1 e => iteF (k H1 e)
theorem s_noif {tt : TT} {σ : L2.St} {t : TS} (h : Evl.EvT tt σ H false) (k : ∀ H1, Ex H H1 → D.nx σ H1) : tIfS tt t tNext D σ H := h H (Ex.refl H) _ fun H1 e => iteF (k H1 e)
/-- one error of one row -/
theorem err_step (T : ErrTab K cl S) {i : Nat} {e : Addr} {x0 x1 x2 x3 x4 x5 x7 x9 x10 : Option V} (hi : i < 24) (he : ErrAt H e (cl i))
    (k : ∀ H1, Ex H H1 → D.nx [x0, x1, x2, x3, x4, x5, some (.int (i : Int)), x7, some (.ref e), x9, x10] H1) : tErrLoop K cl S D [x0, x1, x2, x3, x4, x5, some (.int (i : Int)), x7, some (.ref e), x9, x10] H := by
  refine q_noif (test_is T hi rfl he) fun H1 e1 => ?_
  exact s_noif (test_sorts (i := i) (by show 10 < 11; decide) rfl rfl hi (errAt_grow e1 he)) fun H2 e2 => k H2 (ex_tr e1 e2)
/-- one row -/
theorem row_step (T : ErrTab K cl S) {i : Nat} {q a b : Addr} {v : V} {d : PyData} {x0 x1 x2 x3 x8 x9 x10 : Option V} (hi : i < 24) (hq : H q = some (.tup [.ref a, .ref b, v, v])) (ha : ErrAt H a (cl i)) (hb : ErrAt H b (cl i)) (hD : Dat K H v d)
    (hf : d.showable = true ∧ d.shown.length ≤ sizeLine ∧ d.depth ≤ 60 ∧ PyData.strOk d.shown = true)
    (k : ∀ H1 y, Ex H H1 → D.nx [x0, x1, x2, x3, some v, some (.str d.shown), some (.int (i : Int)), some (.ref q), y, x9, x10] H1) :
    tRowLoop K cl S D [x0, x1, x2, x3, some v, some (.str d.shown), some (.int (i : Int)), some (.ref q), x8, x9, x10] H := by
  refine ⟨_, rfl, 2, rfl, q, _, rfl, SqT.of hq, (by show ¬ (HT.sIx 4 0 none = 0 ∧ HT.sIx 4 4 (some 2) = 4); decide), fun p hp => ?_⟩
  have n := Ex.new (o := .tup (cutV [.ref a, .ref b, v, v] none (some 2))) hp
  have hcut : cutV [V.ref a, V.ref b, v, v] none (some 2) = [V.ref a, V.ref b] := rfl
  refine ⟨p, rfl, ⟨_, SqT.of upd_same⟩, for_tup (K := K) (a := p) (xs := [.ref a, .ref b])
    (fun j σ H' => ∃ y, σ = [x0, x1, x2, x3, some v, some (.str d.shown), some (.int (i : Int)), some (.ref q), y, x9, x10] ∧ Ex (upd H p (.tup (cutV [.ref a, .ref b, v, v] none (some 2)))) H')
    ⟨x8, rfl, Ex.refl _⟩ (fun j σ H' _ ⟨_, _, e⟩ => SqT.of (by rw [e p _ upd_same, hcut])) ?_ ?_⟩
  · rintro j x σ H' hj ⟨y, rfl, e⟩
    have eH := ex_tr n e
    have hx : ∃ z, x = .ref z ∧ ErrAt H z (cl i) := by
      match j, hj with
      | 0, hj => exact ⟨a, (Option.some.inj hj).symm, ha⟩
      | 1, hj => exact ⟨b, (Option.some.inj hj).symm, hb⟩
      | n + 2, hj => simp at hj
    obtain ⟨z, rfl, hz⟩ := hx
    exact err_step T hi (errAt_grow eH hz) fun H1 e1 => ⟨_, rfl, ex_tr e e1⟩
  · rintro σ H' ⟨y, rfl, e⟩
    have eH := ex_tr n e
    exact s_noif (test_reprs (σ := [x0, x1, x2, x3, some v, some (.str d.shown), some (.int (i : Int)), some (.ref q), y, x9, x10]) rfl rfl rfl (eH q _ hq) (dat_grow eH hD) hf) fun H1 e1 => k H1 y (ex_tr eH e1)
theorem sql_ex {a : Addr} {xs : List V} {H H' : Hp} (e : Ex H H') (h : SqL K H a xs) : SqL K H' a xs := Evl.ex_l e h
theorem sql_exB {a t : Addr} {xs : List V} {H H' : Hp} (ht : Tape H t) (e : ExB t H H') (h : SqL K H a xs) : SqL K H' a xs := by
  obtain ⟨d, m, h2, _⟩ := ht
  rcases h with (h | ⟨u, h⟩) | h
  · exact .inl (.inl (e _ _ (ne_of h h2 (by intro z; cases z)) h))
  · exact .inl (.inr ⟨u, e _ _ (ne_of h h2 (by intro z; cases z)) h⟩)
  · exact .inr h
theorem tape_ex {t : Addr} {H H' : Hp} (e : Ex H H') (h : Tape H t) : Tape H' t := by
  obtain ⟨d, m, h2, h3⟩ := h
  exact ⟨d, m, e _ _ h2, h3⟩
/-- one turn: a value, its errors -/
theorem turn_step (T : ErrTab K cl S) {t a : Addr} {ns : List Int} {x0 x1 x3 x4 x5 x6 x7 x8 x9 x10 : Option V} (hT : Tape H t) (hS : SqL K H a (ns.map V.int))
    (k : ∀ H1 y4 y5 y6 y7 y8, Tape H1 t → SqL K H1 a (ns.map V.int) → D.nx [x0, x1, some (.ref t), x3, y4, y5, y6, y7, y8, x9, x10] H1) :
    tTurn K cl S D [x0, x1, some (.ref t), x3, x4, x5, x6, x7, x8, x9, x10] H := by
  refine ⟨_, rfl, t, rfl, hT, fun v d H1 hd hD hT1 e1 => ?_⟩
  have hf := any_ok hd
  have hS1 := sql_exB hT e1 hS
  refine ⟨_, rfl, v, d, rfl, hD, hf.1, hf.2.1, hf.2.2.1, ?_⟩
  refine ⟨_, rfl, v, rfl, fun p xs H2 hn e2 hp hall => ?_⟩
  have e12 : Ex H1 H2 := ex_tr e2 ex_del
  have hl : xs.length = 18 := by
    rw [hall.len]
    unfold rowsP
    rw [List.length_map, List.length_range]
  refine ⟨p, xs, rfl, SqL.of hp, for_it (walk_enum (K := K) (a := p) (xs := xs))
    (fun i σ H' => ∃ y6 y7 y8, σ = [x0, x1, some (.ref t), x3, some v, some (.str d.shown), y6, y7, y8, x9, x10] ∧ Ex H2 H')
    ⟨x6, x7, x8, rfl, Ex.refl _⟩ (fun i σ H' _ ⟨_, _, _, _, e⟩ => SqL.of (e p _ hp)) ?_ ?_⟩
  · rintro i x σ H' H'' hi ⟨y6, y7, y8, rfl, e⟩ ⟨Tt, z, w, rfl, hTt, rfl, hz, hw⟩
    cases hz
    have n := Ex.new (o := .tup [.int ((i : Nat) : Int), w]) hTt
    have e3 := ex_tr e n
    obtain ⟨P, hP, pw⟩ := hall.get hw
    have hP' : P = PRow (cl i) v := by
      unfold rowsP at hP
      rw [List.getElem?_map, List.getElem?_range (by omega)] at hP
      exact (Option.some.inj hP).symm
    subst hP'
    obtain ⟨q, a1, b1, rfl, hq, ha, hb⟩ := pw
    have ed : Ex (delH H2 p) (upd H' Tt (.tup [.int ((i : Nat) : Int), .ref q])) := ex_tr ex_del e3
    refine ⟨Tt, _, rfl, SqT.of upd_same, rfl, _, _, rfl, _, _, rfl, rfl, ?_⟩
    exact row_step T (by omega) (ed q _ hq) (errAt_grow ed ha) (errAt_grow ed hb) (dat_grow (ex_tr e12 e3) hD) hf fun H1 y e4 => ⟨_, _, y, rfl, ex_tr e3 e4⟩
  · rintro σ H' ⟨y6, y7, y8, rfl, e⟩
    exact k H' _ _ y6 y7 y8 (tape_ex (ex_tr e12 e) hT1) (sql_ex (ex_tr e12 e) hS1)
theorem start_step (T : ErrTab K cl S) {a : Addr} {ns : List Int} {j : Nat} {x2 x3 x4 x5 x6 x7 x8 x9 x10 : Option V} (hS : Scr K H a ns) (hj : j ≤ 5)
    (k : ∀ H1 y2 y3 y4 y5 y6 y7 y8, Scr K H1 a ns → D.nx [some (.ref a), some (.int (j : Int)), y2, y3, y4, y5, y6, y7, y8, x9, x10] H1) :
    tStart K cl S D [some (.ref a), some (.int (j : Int)), x2, x3, x4, x5, x6, x7, x8, x9, x10] H := by
  refine ⟨_, rfl, _, rfl, a, ns, j, rfl, hS, hj, fun t d m ht hr => ?_⟩
  have n := Ex.new (o := .dK (tapeKv d m)) ht
  refine ⟨3, rfl, by decide, by decide, for_range (lo := 0) (n := 3)
    (fun i σ H' => ∃ y3 y4 y5 y6 y7 y8, σ = [some (.ref a), some (.int (j : Int)), some (.ref t), y3, y4, y5, y6, y7, y8, x9, x10] ∧ Tape H' t ∧ SqL K H' a (ns.map V.int))
    ⟨x3, x4, x5, x6, x7, x8, rfl, ⟨d, m, upd_same, hr⟩, sql_ex n hS.1⟩ ?_ ?_⟩
  · rintro i σ H' hi ⟨y3, y4, y5, y6, y7, y8, rfl, hT, hS'⟩
    exact turn_step T hT hS' fun H1 z4 z5 z6 z7 z8 hT1 hS1 => ⟨_, z4, z5, z6, z7, z8, rfl, hT1, hS1⟩
  · rintro σ H' ⟨y3, y4, y5, y6, y7, y8, rfl, hT, hS'⟩
    exact k H' _ y3 y4 y5 y6 y7 y8 ⟨hS', hS.2⟩
/-! ### the errors without a value -/
def PBare (C : Addr) : VP := fun x H => ∃ a, x = .ref a ∧ H a = some (ExO (.ref C) a)
theorem grows_bare {C : Addr} : Grows (PBare C) := fun _ _ _ e ⟨a, h1, h2⟩ => ⟨a, h1, e _ _ h2⟩
theorem em_bare {C : Addr} {σ : L2.St} : EvM (tErr0 C) σ H (PBare C) := em_err0 fun a _ _ h => ⟨a, rfl, h⟩
def bareP (cl : Nat → Addr) : List VP := (List.range 6).map fun i => PBare (cl (18 + i))
theorem gBare : GrowsAll (bareP cl) := GrowsAll.map (fun _ => grows_bare) _
theorem em_bares {σ : L2.St} : EvM (tBare cl) σ H (PL (bareP cl)) :=
  em_PL (Ps := bareP cl) gBare (ems_cons grows_bare em_bare (ems_cons grows_bare em_bare (ems_cons grows_bare em_bare (ems_cons grows_bare em_bare (ems_cons grows_bare em_bare (ems_cons grows_bare em_bare ems_nil)))))) (by show 6 ≤ 1000; decide)
theorem bare_at {i : Nat} {P : VP} (h : (bareP cl)[i]? = some P) : i < 6 ∧ P = PBare (cl (18 + i)) := by
  unfold bareP at h
  rw [List.getElem?_map] at h
  obtain ⟨j, hj, rfl⟩ := Option.map_eq_some_iff.mp h
  have hi : i < 6 := by
    have := (List.getElem?_eq_some_iff.mp hj).1
    rw [List.length_range] at this
    exact this
  rw [List.getElem?_range hi] at hj
  cases hj
  exact ⟨hi, rfl⟩
end
end Tp

set_option maxHeartbeats 400000
namespace Tp
open PySem PySem.Spec PyProof.Rows L2
section
variable {K : PySem.W.Frag} {cl : Nat → Addr} {S : Addr} {H : Hp} {D : Ends} {σ : L2.St}
theorem wipe8 (σ : L2.St) (x : V) : wipe ((wipe σ [8]).set 8 (some x)) [8] = wipe σ [8] := wipe1 σ 8 x
theorem at8 {σ : L2.St} (h : 8 < σ.length) (x : V) : ((wipe σ [8]).set 8 (some x))[8]? = some (some x) := by
  rw [List.getElem?_set_self]
  show 8 < (σ.set 8 none).length
  rw [List.length_set]
  exact h
theorem test_all (T : ErrTab K cl S) {q : Addr} {xs : List V} (h8 : 8 < σ.length) (h9 : σ[9]? = some (some (.ref q))) (hq : H q = some (.lst xs)) (hx : AllP H (bareP cl) xs) :
    Evl.EvT (tTest (tOp (rIn K false) (bl false) (tAllIs K S))) σ H false := by
  refine evt_op2 (P := fun v _ => v = .bl false) (P' := PL ((List.range 6).map fun _ => fun v _ => v = V.bl true)) (em_c fun _ _ => rfl) (fun H1 e1 => ?_) fun x y H2 H3 _ hx e3 ⟨p, ys, ey, hp, hy⟩ Q k => ?_
  · refine em_lc (Ps := bareP cl) (Rs := (List.range 6).map fun _ => fun v _ => v = V.bl true) gBare (GrowsAll.map (fun _ => grows_eq) _) (by unfold bareP; rw [List.length_map, List.length_map]) (by unfold bareP; rw [List.length_map]; decide)
      (em_var h9 fun H' e => ⟨q, xs, rfl, (ex_tr e1 e) q _ hq, hx.grow (ex_tr e1 e) gBare⟩) (fun D i P R z H' hD hE hP hR pz => ?_) fun D ys H' hn hE hp ha => ⟨D, ys, rfl, hp, ha.grow ex_del (GrowsAll.map (fun _ => grows_eq) _)⟩
    obtain ⟨hi, rfl⟩ := bare_at hP
    obtain ⟨e, rfl, he⟩ := pz
    rw [List.getElem?_map, List.getElem?_range hi] at hR
    obtain rfl := (Option.some.inj hR).symm
    refine ⟨(wipe σ [8]).set 8 (some (.ref e)), fun Q k => k, wipe8 σ _, ?_⟩
    have hat : ErrAt H' e (cl (18 + i)) := .inr (ex_del e _ he)
    have a8 := at8 h8 (.ref e)
    exact fun H2 e2 Q k => em_isS T (by omega) a8 (errAt_grow e2 hat) H2 (Ex.refl H2) _ fun x H3 e3 ex => ⟨true, ex, iteT (em_isV T (by omega) a8 (errAt_grow (ex_tr e2 e3) hat) H3 (Ex.refl H3) _ fun y H4 e4 ey => k y H4 (ex_tr e3 e4) ey)⟩
  · subst hx ey
    have hys : ys = List.replicate 6 (V.bl true) := by
      have : ∀ {l : List Nat} {ys : List V}, AllP H3 (l.map fun _ => (fun v _ => v = V.bl true)) ys → ys = List.replicate l.length (V.bl true) := by
        intro l
        induction l with
        | nil => intro ys h; cases h; rfl
        | cons a l ih =>
          intro ys h
          cases h with
          | cons h1 h2 => rw [h1, ih h2]; rfl
      have q := this hy
      rw [List.length_range] at q
      exact q
    subst hys
    exact ⟨p, _, rfl, .inl (SqL.of hp), rfl, by decide, k H3 (Ex.refl H3)⟩
def rowsD : PyData := .list ((List.range 6).map fun i => bitsD (bitB (18 + i)))
theorem dp_PBits {i : Nat} {x : V} (h : PBits i x H) : Dp K H x (bitsD (bitB i)) := by
  obtain ⟨p, rfl, hp⟩ := h
  rw [bitsOf_eq] at hp
  exact .lst (SqL.of hp) (dp_bits _)
theorem dp_rows {xs : List V} (h : AllP H ((List.range 6).map fun i => PBits (18 + i)) xs) : DpAll K H xs ((List.range 6).map fun i => bitsD (bitB (18 + i))) := by
  have : ∀ {l : List Nat} {xs : List V}, AllP H (l.map fun i => PBits (18 + i)) xs → DpAll K H xs (l.map fun i => bitsD (bitB (18 + i))) := by
    intro l
    induction l with
    | nil => intro xs h; cases h; exact .nil
    | cons a l ih =>
      intro xs h
      cases h with
      | cons h1 h2 => exact .cons (dp_PBits h1) (ih h2)
  exact this h
theorem rows_lay : PyData.canLay0 rowsD = true ∧ SeqAt.shaped rowsD = true := by
  have h : ∀ l : List Nat, PyData.canLayAll0 (l.map fun i => bitsD (bitB (18 + i))) = true ∧ PyData.depthAll (l.map fun i => bitsD (bitB (18 + i))) ≤ 1 := by
    intro l
    induction l with
    | nil => exact ⟨rfl, Nat.zero_le _⟩
    | cons a l ih =>
      obtain ⟨c1, c2⟩ := canLay_bits (bitB (18 + a))
      simp only [List.map_cons, PyData.canLayAll0, PyData.depthAll, c1, ih.1, Bool.and_self]
      exact ⟨trivial, Nat.max_le.mpr ⟨c2, ih.2⟩⟩
  have c : PyData.canLay0 rowsD = true := by
    unfold rowsD
    simp only [PyData.canLay0]
    exact (h _).1
  refine ⟨c, Bool.and_eq_true_iff.mpr ⟨c, decide_eq_true ?_⟩⟩
  unfold rowsD
  simp only [PyData.depth]
  have := (h (List.range 6)).2
  omega
theorem ret_op2 {r : R2} {ta tb : TE} {P P' : VP} (ha : EvM ta σ H P) (hb : EvM tb σ H P') (k : ∀ x y H2 H3, Ex H H2 → P x H2 → Ex H2 H3 → P' y H3 → r x y H3 D.rt) : tRet (tOp r ta tb) D σ H :=
  ha H (Ex.refl H) _ fun x H2 e2 px => em_mono hb e2 H2 (Ex.refl H2) _ fun y H3 e3 py => k x y H2 H3 e2 px e3 py
theorem last_step (T : ErrTab K cl S) {q : Addr} {xs : List V} (h8 : 10 < σ.length) (h9 : σ[9]? = some (some (.ref q))) (hq : H q = some (.lst xs)) (hx : AllP H (bareP cl) xs) (k : ∀ H', D.rt (.bl true) H') :
    tRet (tOp (rEqD K) (tAllSorts K cl) tAllBits) D σ H := by
  have gB : GrowsAll ((List.range 6).map fun i => PBits (18 + i)) := GrowsAll.map (fun _ => grows_bits) _
  have left : EvM (tAllSorts K cl) σ H (PL ((List.range 6).map fun i => PBits (18 + i))) := by
    refine em_lc (Ps := bareP cl) (Rs := (List.range 6).map fun i => PBits (18 + i)) gBare gB (by unfold bareP; rw [List.length_map, List.length_map]) (by unfold bareP; rw [List.length_map]; decide)
      (em_var h9 fun H' e => ⟨q, xs, rfl, e q _ hq, hx.grow e gBare⟩) (fun D i P R z H' hD hE hP hR pz => ?_) fun D ys H' hn hE hp ha => ⟨D, ys, rfl, hp, ha.grow ex_del gB⟩
    obtain ⟨hi, rfl⟩ := bare_at hP
    obtain ⟨e, rfl, he⟩ := pz
    rw [List.getElem?_map, List.getElem?_range hi] at hR
    obtain rfl := (Option.some.inj hR).symm
    refine ⟨(wipe σ [8]).set 8 (some (.ref e)), fun Q k => k, wipe8 σ _, em_sorts (at8 (by omega) _) (i := 18 + i) (by omega) (.inr (ex_del e _ he)) fun p H2 hn e2 hp => ⟨p, rfl, ?_⟩⟩
    rw [delH_ne (fun z => hD (by rw [← z]; exact hn))]
    exact hp
  have right : EvM tAllBits σ H (PL ((List.range 6).map fun i => PBits (18 + i))) := by
    refine em_lcW (lo := 18) (n := 6) (R := fun i => PBits (18 + i)) (by decide) (fun _ => grows_bits) (rng2 (a := 18) (b := 24) (by decide) (by decide)) (wipe1 σ 6) (fun D i H1 hD hi => ?_) fun D ys H' hn he hp ha => ⟨D, ys, rfl, hp, ha.grow ex_del gB⟩
    have e6 : ((wipe σ [6]).set 6 (some (.int (18 + (i : Int)))))[6]? = some (some (.int ((18 + i : Nat) : Int))) := by
      rw [List.getElem?_set_self (by show 6 < (σ.set 6 none).length; rw [List.length_set]; omega)]
      congr 3
    refine em_bits (i := 18 + i) (by rw [List.length_set]; show 10 < (σ.set 6 none).length; rw [List.length_set]; exact h8) e6 fun p H2 hn _ hp => ⟨p, rfl, ?_⟩
    rw [delH_ne (fun z => hD (by rw [← z]; exact hn))]
    exact hp
  refine ret_op2 left right fun x y H1 H2 e1 ⟨p, ys, ex, hp, hy⟩ e2 ⟨r, zs, ey, hr, hz⟩ => ?_
  subst ex ey
  refine ⟨rowsD, rowsD, .lst (SqL.of (e2 p _ hp)) (dp_rows (hy.grow e2 gB)), .lst (SqL.of hr) (dp_rows hz), rows_lay.2, rows_lay.2, ?_⟩
  rw [SeqAt.eqv_refl _ rows_lay.1]
  exact k H2
theorem pure_law (T : ErrTab K cl S) (vs : List V) (H : Hp) (Q : VK) (E : XK) (h : spLaw K vs H Q E) : t_law K cl S { nx := fun _ H' => Q .non H', rt := Q } (start NLaw vs) H := by
  obtain ⟨a, ns, rfl, hS, k⟩ := h
  unfold t_law
  refine ⟨_, rfl, a, _, rfl, .inl hS.1, 2, _, rfl, 1, _, rfl, _, rfl, ?_, ?_, for_range (lo := 0)
    (fun i σ H' => ∃ y1 y2 y3 y4 y5 y6 y7 y8, σ = [some (.ref a), y1, y2, y3, y4, y5, y6, y7, y8, none, none] ∧ Scr K H' a ns)
    ⟨none, none, none, none, none, none, none, none, rfl, hS⟩ ?_ ?_⟩
  · split <;> split <;> omega
  · split <;> split <;> omega
  · rintro i σ H' hi ⟨y1, y2, y3, y4, y5, y6, y7, y8, rfl, hS'⟩
    have hi5 : i ≤ 5 := by
      split at hi <;> split at hi <;> omega
    show tStart K cl S _ [some (.ref a), some (.int (0 + (i : Int))), y2, y3, y4, y5, y6, y7, y8, none, none] H'
    rw [Int.zero_add]
    exact start_step T hS' hi5 fun H1 z2 z3 z4 z5 z6 z7 z8 hS1 => ⟨_, z2, z3, z4, z5, z6, z7, z8, rfl, hS1⟩
  · rintro σ H' ⟨y1, y2, y3, y4, y5, y6, y7, y8, rfl, hS'⟩
    refine q_asg (P := PL (bareP cl)) em_bares fun v H1 e1 ⟨q, xs, ev, hq, hx⟩ => ?_
    subst ev
    refine q_noif (test_all T (σ := [some (.ref a), y1, y2, y3, y4, y5, y6, y7, y8, some (.ref q), none]) (by show 8 < 11; decide) rfl hq hx) fun H2 e2 => ?_
    exact last_step T (σ := [some (.ref a), y1, y2, y3, y4, y5, y6, y7, y8, some (.ref q), none]) (by show 10 < 11; decide) rfl (e2 q _ hq) (hx.grow e2 gBare) k
end
end Tp

set_option maxHeartbeats 4000000
/-! Defs that ask for reprs: they are promised where no repr runs around. -/
namespace Tp
open PySem PySem.Spec PyProof.Rows L2
/-- no repr runs around -/
def Calm (A : Around) : Prop := A.guards = some []
theorem Calm.deeper {A : Around} {env : Env} (h : Calm A) : Calm (A.deeper env) := h
structure FnG (P : Program) (w : World) (K : PySem.W.Frag) (mg : Str → Option Value) (base : Heap) (k : Nat) (f : Addr) (fd : FuncData) (ps : List Str) (sp : Sp) : Prop where
  len : ∀ vs H Q E, sp vs H Q E → vs.length = ps.length
  run : ∀ (A : Around) (out : List Env) (s : Shared) (H : Hp) (args : Args) (us : List Value) (vs : List V) (Q : VK) (E : XK), Calm A → Room k A → Env0 P w K mg base A out s H →
    BindsTo s fd args (ps.zip us) → Vals vs us → sp vs H Q E → codeAny (model P w) A (.call (.ref f) args) (CR CX0 out P w H s Q E) s
section
variable {P : Program} {w : World} {K : PySem.W.Frag} {mg : Str → Option Value} {base : Heap} {k : Nat} {f : Addr} {fd : FuncData} {N ps : List Str} {sp : Sp}
/-- a def by its body -/
theorem FnG.of {x qual : Str} {st : Stmt} (F : Fun K x qual st f fd) (S : FnScope N ps (defScope st)) (len : ∀ vs H Q E, sp vs H Q E → vs.length = ps.length)
    (body : ∀ (cdv : Value) (A : Around) (out : List Env) (s : Shared) (H : Hp) (vs : List V) (Q : VK) (E : XK), Calm A → Room k (A.deeper (envOfC qual (defScope st) s.heap.objs.size f cdv)) → sp vs H Q E →
      ∃ t, PSs (cxOf CX0 P w K mg base N qual (defScope st) f cdv A out s H E) (defBody st) t ∧ t { nx := fun _ H' => Q .non H', rt := Q } (start N vs) H) :
    FnG P w K mg base (k + 1) f fd ps sp := by
  obtain ⟨oc, od, kV, doc, pm, an, cd, ct, osl, rfl, lk, hcd⟩ := F.ex
  refine ⟨len, fun A out s H args us vs Q E hc hr e0 hb r hsp => ?_⟩
  have hl := len _ _ _ _ hsp
  have up : ∀ b o, base.get? b = some o → s.heap.get? b = some o := fun b o e => (e0.bs b o e).1
  have KX : K.In s.heap := e0.mod.kin.keeps up
  have lim : s.heap.NoLimit := e0.mod.nolimit.keeps up
  refine codeAny_call_function hr.depth (KX _ _ lk) rfl S.co S.gen rfl (PySem.W.codeRec_of KX hcd) (hb _ _ _ _ ?_)
  refine wpAny_newFunctionEnv_cells S.kind (fun y hy => ?_) fun env he s1 x => ?_
  · rcases S.par y.1 (List.of_mem_zip (a := y.1) (b := y.2) hy).1 with q | q
    · exact .inl q
    · exact .inr ⟨q, PySem.W.cellsFrom_some _ _ _ (.inl q)⟩
  · subst he
    refine ⟨lim.keeps x.toInCall.keep, codeAny_func ?_⟩
    obtain ⟨t, ht, hq⟩ := body cd A out s H vs Q E hc (hr.deeper _) hsp
    have I := inv_start (CX := CX0) (P := P) (w := w) (K := K) (mg := mg) (base := base) (N := N) (E := E) S hr.hd e0 hl r x
    refine wpAny_mono (ht.run [] s1 (start N vs) H _ I hq) (fun fl s' hs => ?_) fun e s' hs => hs
    cases fl with
    | brk =>
      obtain ⟨_, _, _, q⟩ := hs
      exact q.elim
    | cont =>
      obtain ⟨_, _, _, q⟩ := hs
      exact q.elim
    | next =>
      obtain ⟨σ', H', J, q⟩ := hs
      exact ⟨V.non, H', J.os, J.bare, J.base, J.hok, rfl, q⟩
    | ret u =>
      obtain ⟨v, σ', H', J, rv, q⟩ := hs
      exact ⟨v, H', J.os, J.bare, J.base, J.hok, rv, q⟩
end
/-- the law's own call -/
theorem callLaw {P : Program} {w : World} {K : PySem.W.Frag} {mg mb : Str → Option Value} {k : Nat} {fa a : Addr} {fd : FuncData} {x : Str} {sp : Sp} {st : Shared} {vs : List Value} {ns : List Int}
    (KX : K.In st.heap) (hns : st.heap.Ns mainGlobals mg) (hb : st.heap.Ns builtinsNs mb) (hbb : ∀ x : Str, x ≠ "__name__" → mb x = bootBuiltins x) (hlim : st.heap.NoLimit) (hg : st.gens = #[])
    (ha : st.heap.get? a = some { cls := .type "list", data := .seq vs.toArray }) (hi : IntsAre vs ns) (hl : ns.length ≤ sizeLine) (hr : Room k callerA)
    (F : ∀ base : Heap, K.In base → base.Ns mainGlobals mg → FnG P w K mg base k fa fd [x] sp) (hbind : ∀ (s : Shared) (u : Value), BindsTo s fd ⟨[u], []⟩ [(x, u)])
    (hsp : ∀ H : Hp, Only H → SqL K H a (ns.map V.int) → sp [.ref a] H (fun v _ => v = .bl true) E0) :
    codeAny (model P w) callerA (.call (.ref fa) ⟨[.ref a], []⟩) (fun r s' => r = .ok (.ret (.bool true)) ∧ OldK st.heap s'.heap ∧ s'.os = st.os ∧ AllBare s'.gens) st := by
  have go : ∀ H : Hp, Only H → SqL K H a (ns.map V.int) → HOk P w H st.heap → (∀ b u, H b = some u → b = a ∧ K.lookup a = none) →
      codeAny (model P w) callerA (.call (.ref fa) ⟨[.ref a], []⟩) (fun r s' => r = .ok (.ret (.bool true)) ∧ OldK st.heap s'.heap ∧ s'.os = st.os ∧ AllBare s'.gens) st := by
    intro H only sq hok lone
    have free : ∀ b, (∀ u, H b = some u → False) → H b = none := fun b z => by
      cases q : H b with
      | none => rfl
      | some u => exact (z u q).elim
    have low : ∀ {b : Addr} {o : Obj}, st.heap.get? b = some o → H b = none → (hidT st.heap H).get? b = some o := fun e n => hidT_get e n
    have names : ∀ {b : Addr} {m : Str → Option Value}, st.heap.Ns b m → (hidT st.heap H).Ns b m := fun {b m} n => by
      obtain ⟨o, es, ep, e, d, r⟩ := n
      refine ⟨o, es, ep, low e (free b fun u q => ?_), d, r⟩
      rw [(lone b u q).1, ha] at e
      cases e
      cases d
    have inn : K.In (hidT st.heap H) := fun b o e => low (KX b o e) (free b fun u q => by
      obtain ⟨e1, e2⟩ := lone b u q
      rw [e1, e2] at e
      cases e)
    have md : Mod K mg (hidT st.heap H) := by
      obtain ⟨mc, h1, h2⟩ := hlim
      exact ⟨inn, names hns, ⟨mb, names hb, hbb⟩, mc, names h1, h2⟩
    have no : ∀ b : Addr, b ∉ ([] : List Addr) := fun b z => by cases z
    have e0 : Env0 P w K mg (hidT st.heap H) callerA [] st H :=
      { frames := rfl, mod := md, bs := fun b o e => of_hidT e, bsz := Nat.le_of_eq (hidT_size _ _), funs := trivial, frf := fun b z => (no b z).elim, hok := hok, bare := .of_eq hg }
    have run := (F _ inn (names hns)).run callerA [] st H ⟨[.ref a], []⟩ [.ref a] [.ref a] _ _ rfl hr e0 (hbind st (.ref a)) (.cons rfl .nil) (hsp H only sq)
    refine codeAny_mono run fun r s' h => ?_
    cases r with
    | error e => exact h.elim
    | ok fl =>
      cases fl with
      | brk => exact h.elim
      | cont => exact h.elim
      | next => exact h.elim
      | ret u =>
        obtain ⟨v, H', hos, hbare, un, hok', rv, q⟩ := h
        have q' : v = V.bl true := q
        subst q'
        obtain rfl : u = Value.bool true := rv
        refine ⟨rfl, OldK.of_keep fun b o e => ?_, hos, hbare⟩
        rcases only b with z | ⟨ob, xs, z⟩
        · exact un.keep b o e z (no b) (no b)
        · have o1 := (hok b _ z).1
          have o2 := (hok' b _ (un.frzs b ob _ z)).1
          rw [e] at o1
          cases o1
          exact o2
  have rv := vals_ints hi
  cases hk : K.lookup a with
  | some o =>
    have e := KX a o hk
    rw [ha] at e
    cases e
    refine go (fun _ => none) (fun _ => .inl rfl) (.inr ⟨_, vs.toArray, _, hk, rfl, rfl, rfl, ?_, by simpa using rv⟩) (fun b u z => nomatch z) fun b u z => nomatch z
    rw [List.size_toArray, hi.length]
    exact hl
  | none =>
    let So : HO := .frz { cls := .type "list", data := .seq vs.toArray } (.lst (ns.map V.int))
    have at1 : ∀ b u, (if b = a then some So else none) = some u → b = a ∧ So = u := fun b u z => by
      by_cases e : b = a
      · rw [if_pos e] at z
        exact ⟨e, Option.some.inj z⟩
      · rw [if_neg e] at z
        cases z
    refine go (fun b => if b = a then some So else none) (fun b => ?_) (.inl (.inr ⟨_, if_pos rfl⟩)) (fun b u z => ?_) fun b u z => ⟨(at1 b u z).1, hk⟩
    · by_cases e : b = a
      · exact .inr ⟨_, _, if_pos e⟩
      · exact .inl (if_neg e)
    · obtain ⟨rfl, rfl⟩ := at1 b u z
      exact ⟨ha, by rw [List.length_map]; exact hl, vs, _, rv, ha⟩
/-- the goal that the head leaves -/
theorem walkLaw {l : PySem.W.OpenLaw} {n k : Nat} {q : Program} {loose : List Str} {XP : (Str → Option Value) → Heap → Prop} {YP : World → Heap → Prop} {d : DefRec} {K : Params → PySem.W.Frag} {x : Str}
    (hn : l.most = some n) (hn2 : n ≤ sizeLine) (hdf : d.params.defaults = []) (hr : Room k callerA) (hY : ∀ (w : World) (h : Heap), YP w h → (K w.params).In h) (sp : PySem.W.Frag → Sp)
    (F : ∀ (w : World) (mg : Str → Option Value) (fa : Addr) (h : Heap), (K w.params).In h → h.Ns mainGlobals mg → mg d.name = some (.ref fa) →
      ∃ fd : FuncData, (∀ (s : Shared) (u : Value), BindsTo s fd ⟨[u], []⟩ [(x, u)]) ∧ ∀ base : Heap, (K w.params).In base → base.Ns mainGlobals mg → FnG l.prog w (K w.params) mg base k fa fd [x] (sp (K w.params)))
    (hsp : ∀ (K : PySem.W.Frag) (H : Hp) (a : Addr) (ns : List Int), ns.length ≤ n → (∀ z ∈ ns, Builtin.Int.intBits z ≤ 1048576) → Only H → SqL K H a (ns.map V.int) → sp K [.ref a] H (fun v _ => v = .bl true) E0) :
    PySem.W.WalkO q loose XP YP l.row.toRowW d [] (fun f vs => PySem.call f vs) :=
  Att.attach_callB hn hdf fun w s₀ s₁ mg mb fa o pm cd doc a vs ns G Y ho hd hcd hmg hobj hints hlen hbits hg => by
    have KX := hY w _ Y
    obtain ⟨fd, hb, hF⟩ := F w mg fa _ KX G.T.g hmg
    exact callLaw KX G.T.g G.T.b G.T.builtins G.T.nolimit hg hobj hints (Nat.le_trans hlen hn2) hr hF hb fun H hO hS => hsp _ H a ns hlen hbits hO hS
end Tp

set_option maxHeartbeats 400000
/-! repr of a list or a tuple of data, dicts among them. -/
namespace G.J
open PySem PySem.Spec PyProof.Rows L2 Tp G
inductive DatAll (K : PySem.W.Frag) (H : Hp) : List V → List PyData → Prop
  | nil : DatAll K H [] []
  | cons {v : V} {d : PyData} {vs : List V} {ds : List PyData} : Dat K H v d → DatAll K H vs ds → DatAll K H (v :: vs) (d :: ds)
inductive DatL (K : PySem.W.Frag) (H : Hp) : V → PyData → Prop
  | one {v : V} {d : PyData} (h : Dat K H v d) : DatL K H v d
  | lst {p : Addr} {xs : List V} {ds : List PyData} (h : SqL K H p xs) (a : DatAll K H xs ds) : DatL K H (.ref p) (.list ds)
  | tup {p : Addr} {xs : List V} {ds : List PyData} (h : SqT K H p xs) (a : DatAll K H xs ds) : DatL K H (.ref p) (.tuple ds)
section
variable {X : Cx} {pins : List (Addr × Obj)} {σ : L2.St} {H : Hp} {s : Shared}
/-- items of data, each one written by itself -/
theorem dats_K (I : Inv X pins σ H s) : ∀ {vs : List V} {us : List Value} {ds : List PyData}, DatAll X.K H vs ds → Vals vs us → PyData.showableAll ds = true → (∀ t ∈ PyData.shownAll ds, t.length ≤ sizeLine) →
    ∃ as bs, ReadsAll s.heap us ds as ∧ ReadAtMost s.heap (PyData.depthAll ds) bs ∧ ReprAllK X.prog X.w bs s.heap (PyData.depthAll ds) us (PyData.shownAll ds)
  | _, _, _, .nil, .nil, _, _ => ⟨[], [], .nil, fun _ h => (nomatch h), by simp only [PyData.shownAll]; exact .nil⟩
  | _, _, d :: ds, .cons h t, .cons r q, hs, hz => by
    obtain ⟨s1, s2⟩ : d.showable = true ∧ PyData.showableAll ds = true := by simpa [PyData.showableAll] using hs
    obtain ⟨as1, r1, m1⟩ := dat_reads I h r
    obtain ⟨b1, c1, k1⟩ := ReprK.of_reads (prog := X.prog) (w := X.w) r1 s1 m1 (hz _ (by simp [PyData.shownAll]))
    obtain ⟨as2, b2, r2, c2, k2⟩ := dats_K I t q s2 fun x hx => hz x (by simp [PyData.shownAll, hx])
    have l1 : d.depth ≤ PyData.depthAll (d :: ds) := by simp only [PyData.depthAll]; omega
    have l2 : PyData.depthAll ds ≤ PyData.depthAll (d :: ds) := by simp only [PyData.depthAll]; omega
    refine ⟨as1 ++ as2, b1 ++ b2, .cons r1 r2, (c1.mono l1).append (c2.mono l2), ?_⟩
    simp only [PyData.shownAll]
    exact .cons ((k1.more fun b hb => List.mem_append_left _ hb).level_le l1) (k2.more_le (fun b hb => List.mem_append_right _ hb) l2)
end
def rRepr2 (K : PySem.W.Frag) : List V → Hp → VK → Prop := fun xs H Q => ∃ v d, xs = [v] ∧ DatL K H v d ∧ d.showable = true ∧ d.shown.length ≤ sizeLine ∧ d.depth ≤ 60 ∧ Q (.str d.shown) H
theorem call_repr2 {X : Cx} (hg : X.A.guards = some []) (hu : X.A.units + 64 < cLine) : CallR X (.builtin "repr") (rRepr2 X.K) := by
  intro pins s σ H xs us Q I r h
  obtain ⟨v, d, rfl, hD, hs, hz, hd, q⟩ := h
  cases hD with
  | one hD => exact call_reprD hg hu pins s σ H [v] us Q I r ⟨v, d, rfl, hD, hs, hz, hd, q⟩
  | @lst p xs ds hl ha =>
    obtain ⟨u, rfl, ru⟩ := r.one
    cases (show u = Value.ref p from ru)
    obtain ⟨its, rv, ⟨o, n, ho, hc, _, hd'⟩, _⟩ := I.list hl
    have hz' : (listText (PyData.shownAll ds)).length ≤ sizeLine := by simpa only [PyData.shown] using hz
    obtain ⟨as, bs, hr, hb, hk⟩ := dats_K I ha rv (by simpa [PyData.showable] using hs) fun t ht => Nat.le_trans (listText_mem_le ht) hz'
    have rd : Reads s.heap (.ref p) (.list ds) _ := .list ho hc hd' hr
    have hdd : PyData.depthAll ds + 1 ≤ 60 := by
      simp only [PyData.depth] at hd
      omega
    have hna : p ∉ bs := not_mem_of_deeper rd (by simp only [PyData.depth]; omega) hb
    cases its with
    | nil =>
      cases hr
      exact repr_of_reads' rd hs (fun z => by simp [PyData.hasDict, PyData.hasDictAll] at z) hg (by omega) (fun _ _ e => e) (fun h' u tk hk => ⟨.str _, H, I.kept (h' := h') (t' := tk) hk, ⟨_, rfl⟩, q⟩) hz
    | cons x l =>
      refine call_repr_slot (by omega) ⟨o, ho, hc⟩ F.slot_list_repr.toG (call_list_reprK ho hc hd' hna (by simpa using hk.length_eq) (fun i y e => hk.item i y (by simpa using e)) hg (fun b _ => Clear.nil b) (by show X.A.units + 1 + (PyData.depthAll ds + 1) < cLine; omega) (fun _ _ e => e) (fun h' u tk hk => ⟨_, _, rfl, .str _, H, I.kept (h' := h') (t' := tk) hk, ⟨_, rfl⟩, ?_⟩) hz')
      simp only [PyData.shown] at q
      exact q
  | @tup p xs ds hl ha =>
    obtain ⟨u, rfl, ru⟩ := r.one
    cases (show u = Value.ref p from ru)
    obtain ⟨its, rv, ⟨o, ho, hc, n, hd'⟩, _⟩ := I.tuple hl
    have hz' : (tupleText (PyData.shownAll ds)).length ≤ sizeLine := by simpa only [PyData.shown] using hz
    obtain ⟨as, bs, hr, hb, hk⟩ := dats_K I ha rv (by simpa [PyData.showable] using hs) fun t ht => Nat.le_trans (tupleText_mem_le ht) hz'
    have rd : Reads s.heap (.ref p) (.tuple ds) _ := .tuple ho hc hd' hr
    have hdd : PyData.depthAll ds + 1 ≤ 60 := by
      simp only [PyData.depth] at hd
      omega
    have hna : p ∉ bs := not_mem_of_deeper rd (by simp only [PyData.depth]; omega) hb
    refine call_repr_slot (by omega) ⟨o, ho, hc⟩ F.slot_tuple_repr (call_tuple_reprK ho hc hd' hna hk hg (fun b _ => Clear.nil b) (by show X.A.units + 1 + (PyData.depthAll ds + 1) < cLine; omega) (fun _ _ e => e) (fun h' u tk hk => ⟨_, _, rfl, .str _, H, I.kept (h' := h') (t' := tk) hk, ⟨_, rfl⟩, ?_⟩) hz')
    simp only [PyData.shown] at q
    exact q
section
variable {K : PySem.W.Frag} {Γ : List SK} {te ta tb : TE} {Φ : AV → Prop}
/-- what repr reads -/
def Sho (K : PySem.W.Frag) (A : AV) (d : PyData) : Prop := ∀ v H, A.P v H → DatL K H v d
theorem sho_S {A : AV} {d : PyData} (l : Le A (aS K d)) : Sho K A d := fun v H p => .one (l _ _ p H (Gr.refl H))
theorem dats_S {H : Hp} : ∀ {ds : List PyData} {vs : List V}, AllV (ds.map (aS K)) vs H → DatAll K H vs ds
  | [], _, .nil => .nil
  | _ :: _, _, .cons h t => .cons (h H (Gr.refl H)) (dats_S t)
theorem sho_Q {A : AV} {ds : List PyData} (l : Le A (aQ K (ds.map (aS K)))) : Sho K A (.list ds) := fun v H p => by
  obtain ⟨r, xs, e, hs, hx⟩ := l _ _ p
  subst e
  exact .lst hs (dats_S hx)
theorem sho_T {A : AV} {ds : List PyData} (l : Le A (aT K (ds.map (aS K)))) : Sho K A (.tuple ds) := fun v H p => by
  obtain ⟨r, xs, e, hs, hx⟩ := l _ _ p
  subst e
  exact .tup hs (dats_S hx)
theorem wr_repr (h : WR Γ te fun A => ∃ d, Sho K A d ∧ d.showable = true ∧ d.shown.length ≤ sizeLine ∧ d.depth ≤ 60 ∧ Φ (aD K (.str d.shown))) : WR Γ (tCB (rRepr2 K) (tCons te tNil)) Φ := fun O0 H0 σ H e Q q =>
  h O0 H0 σ H e _ fun A ⟨d, l, h1, h2, h3, k⟩ v H1 g p => ⟨v, d, rfl, l _ _ (av_up p), h1, h2, h3, q _ k _ H1 g (.str _)⟩
/-- != and == of texts -/
theorem wr_eqS (h : WR Γ ta fun A => ∃ i, Le A (aD K (.str i)) ∧ WR Γ tb fun B => ∃ j, Le B (aD K (.str j)) ∧ Φ (aB K (decide (i = j)))) : WR Γ (tOp rEq ta tb) Φ := fun O0 H0 σ H e Q q =>
  h O0 H0 σ H e _ fun A ⟨i, la, hb⟩ v H1 g1 p => hb O0 H0 σ H1 (e.grow g1) _ fun B ⟨j, lb, k⟩ w H2 g2 p2 => by
    rw [dp_str (la _ _ p), dp_str (lb _ _ p2)]
    refine ⟨rfl, q _ k _ H2 (g1.trans g2) ?_⟩
    have e : decide (V.str i = V.str j) = decide (i = j) := by
      rw [decide_eq_decide]
      exact ⟨fun h => V.str.inj h, fun h => by rw [h]⟩
    rw [e]
    exact .bl _
theorem wr_neS (h : WR Γ ta fun A => ∃ i, Le A (aD K (.str i)) ∧ WR Γ tb fun B => ∃ j, Le B (aD K (.str j)) ∧ Φ (aB K (!decide (i = j)))) : WR Γ (tOp rNe ta tb) Φ := fun O0 H0 σ H e Q q =>
  h O0 H0 σ H e _ fun A ⟨i, la, hb⟩ v H1 g1 p => hb O0 H0 σ H1 (e.grow g1) _ fun B ⟨j, lb, k⟩ w H2 g2 p2 => by
    rw [dp_str (la _ _ p), dp_str (lb _ _ p2)]
    refine ⟨rfl, q _ k _ H2 (g1.trans g2) ?_⟩
    have e : decide (V.str i = V.str j) = decide (i = j) := by
      rw [decide_eq_decide]
      exact ⟨fun h => V.str.inj h, fun h => by rw [h]⟩
    rw [e]
    exact .bl _
theorem in_strs {x : Str} : ∀ {ss : List Str}, inV (V.str x) (ss.map V.str) = decide (x ∈ ss)
  | [] => by simp [inV]
  | y :: ss => by
    have ih := in_strs (x := x) (ss := ss)
    show (eqV (V.str y) (V.str x) || inV (V.str x) (ss.map V.str)) = _
    rw [ih]
    have : eqV (V.str y) (V.str x) = decide (x = y) := by
      by_cases h : x = y
      · subst h
        simp [eqV]
      · simp [eqV, h, Ne.symm h, fun z : y = x => h z.symm]
    rw [this]
    simp
theorem strs_of {H : Hp} : ∀ {ss : List Str} {xs : List V}, AllV (ss.map fun s => aD K (.str s)) xs H → xs = ss.map V.str
  | [], _, .nil => rfl
  | _ :: _, _, .cons h t => by
    rw [dp_str h, strs_of t]
    rfl
theorem flat_strs {ss : List Str} : (ss.map V.str).all flatV = true := by
  rw [List.all_map, List.all_eq_true]
  intro _ _
  rfl
theorem wr_inS {neg : Bool} (h : WR Γ ta fun A => ∃ x, Le A (aD K (.str x)) ∧ WR Γ tb fun B => ∃ ss : List Str, Le B (aQ K (ss.map fun s => aD K (.str s))) ∧ Φ (aB K (if neg then !decide (x ∈ ss) else decide (x ∈ ss)))) : WR Γ (tOp (rIn K neg) ta tb) Φ := fun O0 H0 σ H e Q q =>
  h O0 H0 σ H e _ fun A ⟨x, la, hb⟩ v H1 g1 p => hb O0 H0 σ H1 (e.grow g1) _ fun B ⟨ss, lb, k⟩ w H2 g2 p2 => by
    obtain ⟨r, xs, rfl, hs, hx⟩ := lb _ _ p2
    obtain rfl := strs_of hx
    refine ⟨r, _, rfl, .inl (gr_dels1.sql hs), by rw [dp_str (la _ _ p)]; rfl, flat_strs, q _ k _ H2 (g1.trans g2) ?_⟩
    rw [dp_str (la _ _ p), in_strs]
    exact .bl _
/-- x not in a list of our own -/
theorem wr_notInO {i : Nat} {p : Addr} {ss : List Str} (hi : Γ[i]? = some (.own p (oL (ss.map fun s => aD K (.str s))))) (h : WR Γ ta fun A => ∃ x, Le A (aD K (.str x)) ∧ Φ (aB K (!decide (x ∈ ss)))) : WR Γ (tOp (rIn K true) ta (tVar i)) Φ := fun O0 H0 σ H e Q q =>
  h O0 H0 σ H e _ fun A ⟨x, la, k⟩ v H1 g1 pv => by
    obtain ⟨h1, o, h2, xs, rfl, h4⟩ := (e.grow g1).own hi
    obtain rfl := strs_of h4
    refine ⟨_, h1, p, _, rfl, .inl (SqL.of h2), by rw [dp_str (la _ _ pv)]; rfl, flat_strs, q _ k _ H1 g1 ?_⟩
    rw [dp_str (la _ _ pv), in_strs]
    exact .bl _
end
end G.J

set_option maxHeartbeats 400000
/-! Readings of the law's own defs: odd things, lists of seats. -/
namespace G.J
open PySem PySem.Spec PyProof.Rows L2 Tp G
abbrev rPow : R2 := Tp.rPow
abbrev N_unlike : List Str := ["things", "found", "thing"]
def t_unlike (K : PySem.W.Frag) (Cs : Cl)  : TS :=
  (tSeq (tAsg (tLst tNil) (gName 1))
  (tSeq (tFor (iList K (tVar 0)) (gName 2) (tIfS (tTest (tOp (rIn K true) (tVar 2) (tVar 1))) (tDrop (tBM K "list" rAppend (tVar 1) (tCons (tVar 2) tNil))) tNext))
  (tRet (tVar 1))))
abbrev N_some : List Str := ["tape", "net", "many"]
def t_some (K : PySem.W.Frag) (Cs : Cl) (pSpots : SpP) : TS :=
  (tRet (tSl (rSlL K) (tCall (spShuf K) [] E0 (tCons (tVar 0) (tCons (tCall (spW pSpots) [] E0 (tCons (tVar 1) tNil)) tNil))) tNoPart (tPart (tCall spPick [] E0 (tCons (tVar 0) (tCons (tOp rAdd (tVar 2) (tC (.int 1))) tNil))))))
abbrev N_odd : List Str := ["tape", "net", "wide", "many", "some"]
def t_odd (K : PySem.W.Frag) (Cs : Cl) (pAny : SpP) : TS :=
  (tSeq (tPar 2 3 (tCons (tOp (rIxT K) (tOp (rIxL K) (tVar 1) (tC (.int 0))) (tC (.int 0))) (tCons (tCB (Tp.rLen K) (tCons (tOp (rIxL K) (tVar 1) (tC (.int 1))) tNil)) tNil)))
  (tSeq (tAsg (tLst (tCons (tTup (tCons (tC (.int 0)) (tCons (tC (.int 0)) tNil))) (tCons (tTup (tCons (tOp rSub (tVar 3) (tC (.int 1))) (tCons (tOp rSub (tVar 2) (tC (.int 1))) tNil))) (tCons (tTup (tCons (tVar 3) (tCons (tC (.int 0)) tNil))) (tCons (tTup (tCons (tC (.int 0)) (tCons (tVar 2) tNil))) (tCons (tTup (tCons (tOp rSub (tC (.int 0)) (tC (.int 1))) (tCons (tC (.int 0)) tNil))) (tCons (tTup (tCons (tC (.int 0)) (tCons (tOp rSub (tC (.int 0)) (tC (.int 1))) tNil))) (tCons (tTup (tCons (tC (.bl true)) (tCons (tC (.int 0)) tNil))) (tCons (tTup (tCons (tC (.int 0)) (tCons (tC (.bl false)) tNil))) (tCons (tLst (tCons (tC (.int 0)) (tCons (tC (.int 0)) tNil))) (tCons (tTup (tCons (tC (.int 0)) tNil)) (tCons (tTup (tCons (tC (.int 0)) (tCons (tC (.int 0)) (tCons (tC (.int 0)) tNil)))) tNil)))))))))))) (gName 4))
  (tRet (tCall (spOne K) [] E0 (tCons (tVar 0) (tCons (tOp rCat (tVar 4) (tLst (tCons (tC .non) (tCons (tC (.int 0)) (tCons (tC (.str "00")) (tCons (tTup (tCons (tC (.int 0)) (tCons (tC .non) tNil))) (tCons (tTup (tCons (tOp rPow (tC (.int 10)) (tC (.int 30))) (tCons (tC (.int 0)) tNil))) (tCons (tCall (spW pAny) [] E0 (tCons (tVar 0) tNil)) tNil)))))))) tNil))))))
abbrev N_areSp : List Str := ["net", "value_here", "known", "told_here", "spot", "thing", "one"]
def t_areSp (K : PySem.W.Frag) (Cs : Cl) (pSpots pUn : SpP) : TS :=
  (tSeq (tIfS (tNot (tB (tCB (rIsi K) (tCons (tVar 1) (tCons (tC (.ty "list")) tNil))))) (tRet (tC (.bl false))) tNext)
  (tSeq (tAsg (tLc (iList K (tCall (spW pSpots) [] E0 (tCons (tVar 0) tNil))) (gName 4) tYes (tCB (rRepr2 K) (tCons (tVar 4) tNil)) [4]) (gName 2))
  (tSeq (tAsg (tLc (iList K (tVar 1)) (gName 5) tYes (tCB (rRepr2 K) (tCons (tVar 5) tNil)) [5]) (gName 3))
  (tRet (tAndV (tOp (rEqD K) (tLc (iList K (tVar 3)) (gName 6) (tTest (tOp (rIn K true) (tVar 6) (tVar 2))) (tVar 6) [6]) (tLst tNil)) (tOp rEq (tCB (Tp.rLen K) (tCons (tCall (spW pUn) [] E0 (tCons (tVar 3) tNil)) tNil)) (tCB (Tp.rLen K) (tCons (tVar 3) tNil))))))))
abbrev N_right : List Str := ["net", "web", "told_here", "spot", "near"]
def t_right (K : PySem.W.Frag) (Cs : Cl) (pSpots pClose pBox pSeat pCellAt : SpP) (pSeats pNear : SpFP) (gK : List V → List V → List V) : TS :=
  (tSeq (tIfS (tTest (tOp (rNeD K) (tMeth Cs.W "seats" (spF pSeats) [] E0 (tVar 1) tNil) (tCall (spW pSpots) [] E0 (tCons (tVar 0) tNil)))) (tRet (tC (.bl false))) tNext)
  (tSeq (tAsg (tLst (tCons (tMeth Cs.W "seats" (spF pSeats) [] E0 (tVar 1) tNil) (tCons (tMeth Cs.W "seats" (spF pSeats) [] E0 (tVar 1) tNil) tNil))) (gName 2))
  (tSeq (tDrop (tBM0 K "list" rClear (tOp (rIxL K) (tVar 2) (tC (.int 0)))))
  (tSeq (tIfS (tTest (tOp (rNeD K) (tOp (rIxL K) (tVar 2) (tC (.int 1))) (tCall (spW pSpots) [] E0 (tCons (tVar 0) tNil)))) (tRet (tC (.bl false))) tNext)
  (tSeq (tFor (iList K (tCall (spW pSpots) [] E0 (tCons (tVar 0) tNil))) (gName 3) (tSeq (tAsg (tMeth Cs.W "neighbours" (spF pNear) [] E0 (tVar 1) (tCons (tVar 3) tNil)) (gName 4))
  (tSeq (tIfS (tOr (tTest (tOp (rNeD K) (tVar 4) (tCall (spW pClose) [] E0 (tCons (tVar 0) (tCons (tVar 3) tNil))))) (tOr (tTest (tOp (rNeD K) (tMeth Cs.W "cell" (spW pCellAt) [] E0 (tVar 1) (tCons (tVar 3) tNil)) (tCall (spW pBox) [] E0 (tCons (tVar 0) (tCons (tVar 3) tNil))))) (tNot (tB (tMeth Cs.W "is_seat" (spW pSeat) [] E0 (tVar 1) (tCons (tVar 3) tNil)))))) (tRet (tC (.bl false))) tNext)
  (tSeq (tDrop (tBM K "list" rAppend (tVar 4) (tCons (tC .non) tNil)))
  (tIfS (tOr (tTest (tOp (rNeD K) (tMethK Cs.W "neighbours" 1 (spF pNear) gK E0 (tVar 1) (tCons (tVar 3) tNil)) (tCall (spW pClose) [] E0 (tCons (tVar 0) (tCons (tVar 3) tNil))))) (tTest (tOp (rNeD K) (tMethK Cs.W "cell" 1 (spW pCellAt) gK E0 (tVar 1) (tCons (tVar 3) tNil)) (tCall (spW pBox) [] E0 (tCons (tVar 0) (tCons (tVar 3) tNil)))))) (tRet (tC (.bl false))) tNext)))))
  (tRet (tOp (rEqD K) (tMeth Cs.W "seats" (spF pSeats) [] E0 (tVar 1) tNil) (tCall (spW pSpots) [] E0 (tCons (tVar 0) tNil)))))))))
abbrev N_law5 : List Str := ["script", "start", "tape", "turn", "net", "beside", "band", "web", "known", "look", "thing", "things", "seen", "due", "spot"]
def t_law5 (K : PySem.W.Frag) (Cs : Cl) (pNet pMB pMW pRight pOdd pSome pAreSp pSpots pSeat pAre pAny : SpP) (pWeb : List AV → (List (Str × AV) → Prop) → Prop) (eS eW : R2) (gA gRev gK : List V → List V → List V) : TS :=
  (tSeq (tFor (iRng1 (tCons (tCB rMax2 (tCons (tC (.int 1)) (tCons (tCB rMin2 (tCons (tC (.int 3)) (tCons (tCB (Tp.rLen K) (tCons (tVar 0) tNil)) tNil))) tNil))) tNil)) (gName 1) (tSeq (tAsg (tCall (spTape K) [] E0 (tCons (tVar 0) (tCons (tVar 1) tNil))) (gName 2))
  (tFor (iRng1 (tCons (tC (.int 3)) tNil)) (gName 3) (tSeq (tPar 4 5 (tCons (tCall (spW pNet) [] E0 (tCons (tVar 2) (tCons (tC (.int 3)) (tCons (tC (.int 7)) tNil)))) (tCons (tCall (spW pNet) [] E0 (tCons (tVar 2) (tCons (tC (.int 3)) (tCons (tC (.int 2)) tNil)))) tNil)))
  (tSeq (tAsg (tCall (spW pMB) [] E0 (tCons (tOp (rIxL K) (tVar 4) (tC (.int 0))) (tCons (tOp (rIxL K) (tVar 4) (tC (.int 1))) tNil))) (gName 6))
  (tSeq (tAsg (tMakeK Cs.W 0 2 (spI Cs.W pWeb) gRev E0 tNil (tCons (tOp (rIxL K) (tVar 4) (tC (.int 2))) (tCons (tVar 6) tNil))) (gName 7))
  (tSeq (tIfS (tOr (tNot (tTest (tOp eS (tFld K (tVar 7) "stretch") (tVar 6)))) (tOr (tTest (tOp rNe (tCB (rRepr2 K) (tCons (tFld K (tVar 7) "closed") tNil)) (tCB (rRepr2 K) (tCons (tOp (rIxL K) (tVar 4) (tC (.int 2))) tNil)))) (tNot (tB (tCall (spW pRight) [] E0 (tCons (tVar 4) (tCons (tVar 7) tNil))))))) (tRet (tC (.bl false))) tNext)
  (tSeq (tIfS (tOr (tNot (tTest (tOp eW (tVar 7) (tCall (spW pMW) [] E0 (tCons (tVar 4) tNil))))) (tOr (tTest (tOp rNe (tOp eW (tVar 7) (tCall (spW pMW) [] E0 (tCons (tVar 5) tNil))) (tOp (rEqD K) (tVar 4) (tVar 5)))) (tOr (tTest (tOp eW (tVar 7) (tVar 6))) (tTest (tOp eW (tVar 7) (tC .non)))))) (tRet (tC (.bl false))) tNext)
  (tSeq (tIfS (tOr (tAnd (tTest (tOp rGt (tCB (Tp.rLen K) (tCons (tOp (rIxL K) (tVar 4) (tC (.int 1))) tNil)) (tC (.int 2)))) (tTest (tOp eW (tVar 7) (tMakeK Cs.W 1 1 (spI Cs.W pWeb) gA E0 (tCons (tVar 6) tNil) (tCons (tNotV (tOp (rIxL K) (tVar 4) (tC (.int 2)))) tNil))))) (tAnd (tNot (tB (tOp (rIxL K) (tVar 4) (tC (.int 2))))) (tNot (tTest (tOp eW (tMake Cs.W (spI Cs.W pWeb) [.bl false] E0 (tCons (tVar 6) tNil)) (tVar 7)))))) (tRet (tC (.bl false))) tNext)
  (tSeq (tAsg (tLc (iList K (tCall (spW pSpots) [] E0 (tCons (tVar 4) tNil))) (gName 14) tYes (tCB (rRepr2 K) (tCons (tVar 14) tNil)) [14]) (gName 8))
  (tFor (iRng1 (tCons (tC (.int 6)) tNil)) (gName 9) (tSeq (tAsg (tCall (spW pOdd) [] E0 (tCons (tVar 2) (tCons (tVar 4) tNil))) (gName 10))
  (tSeq (tIfS (tTest (tOp rNe (tCB (rRepr2 K) (tCons (tLst (tCons (tMeth Cs.W "is_seat" (spW pSeat) [] E0 (tVar 7) (tCons (tVar 10) tNil)) (tCons (tMethK Cs.W "is_seat" 1 (spW pSeat) gK E0 (tVar 7) (tCons (tVar 10) tNil)) tNil))) tNil)) (tCB (rRepr2 K) (tCons (tOp rRep (tLst (tCons (tOp (rIn K false) (tCB (rRepr2 K) (tCons (tVar 10) tNil)) (tVar 8)) tNil)) (tC (.int 2))) tNil)))) (tRet (tC (.bl false))) tNext)
  (tSeq (tAsg (tOp rCat (tCall (spW pSome) [] E0 (tCons (tVar 2) (tCons (tVar 4) (tCons (tC (.int 4)) tNil)))) (tOp rRep (tLst (tCons (tVar 10) tNil)) (tCall spPick [] E0 (tCons (tVar 2) (tCons (tC (.int 2)) tNil))))) (gName 11))
  (tSeq (tAsg (tCall (spOne K) [] E0 (tCons (tVar 2) (tCons (tLst (tCons (tVar 11) (tCons (tVar 11) (tCons (tOp rCat (tVar 11) (tSl (rSlL K) (tVar 11) tNoPart (tPart (tC (.int 1))))) (tCons (tCB (rTupOf K) (tCons (tVar 11) tNil)) (tCons (tCall (spW pAny) [] E0 (tCons (tVar 2) tNil)) tNil)))))) tNil))) (gName 11))
  (tSeq (tPar 12 13 (tCons (tCB (rRepr2 K) (tCons (tVar 11) tNil)) (tCons (tCall (spW pAreSp) [] E0 (tCons (tVar 4) (tCons (tVar 11) tNil))) tNil)))
  (tIfS (tOr (tTest (tOp rNe (tCB (rRepr2 K) (tCons (tLst (tCons (tMeth Cs.W "are_seats" (spW pAre) [] E0 (tVar 7) (tCons (tVar 11) tNil)) (tCons (tMethK Cs.W "are_seats" 1 (spW pAre) gK E0 (tVar 7) (tCons (tVar 11) tNil)) tNil))) tNil)) (tCB (rRepr2 K) (tCons (tOp rRep (tLst (tCons (tVar 13) tNil)) (tC (.int 2))) tNil)))) (tTest (tOp rNe (tCB (rRepr2 K) (tCons (tVar 11) tNil)) (tVar 12)))) (tRet (tC (.bl false))) tNext)))))))))))))))))
  (tRet (tC (.bl true))))
end G.J

set_option maxHeartbeats 400000
/-! Any value; odd things. -/
namespace G.J
open PySem PySem.Spec PyProof.Rows L2 Tp G
section
variable {K : PySem.W.Frag} {Cs : Cl}
/-! ### readings of written data -/
def Lit (K : PySem.W.Frag) (te : TE) (d : PyData) : Prop := ∀ (Γ : List SK) (Φ : AV → Prop), Φ (aD K d) → WR Γ te Φ
def LitS (K : PySem.W.Frag) (te : TE) (d : PyData) : Prop := ∀ (Γ : List SK) (Φ : AV → Prop), Φ (aS K d) → WR Γ te Φ
inductive Lits (K : PySem.W.Frag) : TA → List PyData → Prop
  | nil : Lits K tNil []
  | cons {te : TE} {tr : TA} {d : PyData} {ds : List PyData} : Lit K te d → Lits K tr ds → Lits K (tCons te tr) (d :: ds)
inductive LitsS (K : PySem.W.Frag) : TA → List PyData → Prop
  | nil : LitsS K tNil []
  | cons {te : TE} {tr : TA} {d : PyData} {ds : List PyData} : LitS K te d → LitsS K tr ds → LitsS K (tCons te tr) (d :: ds)
theorem lits_wa {Γ : List SK} {tr : TA} {ds : List PyData} (h : Lits K tr ds) : ∀ {Φs : List AV → Prop}, Φs (ds.map (aD K)) → WA Γ tr Φs := by
  induction h with
  | nil => exact fun k => wa_nil k
  | cons h _ ih => exact fun {Φs} k => wa_cons (h _ _ (ih (Φs := fun As => Φs (_ :: As)) k))
theorem litsS_wa {Γ : List SK} {tr : TA} {ds : List PyData} (h : LitsS K tr ds) : ∀ {Φs : List AV → Prop}, Φs (ds.map (aS K)) → WA Γ tr Φs := by
  induction h with
  | nil => exact fun k => wa_nil k
  | cons h _ ih => exact fun {Φs} k => wa_cons (h _ _ (ih (Φs := fun As => Φs (_ :: As)) k))
theorem lit_int {i : Int} : Lit K (tC (.int i)) (.int i) := fun _ _ k => wr_int k
theorem lit_bl {b : Bool} : Lit K (tC (.bl b)) (.bool b) := fun _ _ k => wr_bl k
theorem lit_str {x : Str} : Lit K (tC (.str x)) (.str x) := fun _ _ k => wr_str k
theorem lit_non : Lit K (tC .non) .none := fun _ _ k => wr_non k
theorem lit_sub {i j : Int} : Lit K (tOp Tp.rSub (tC (.int i)) (tC (.int j))) (.int (i - j)) := fun _ _ k => wr_sub (wr_int ⟨_, le_rfl, wr_int ⟨_, le_rfl, k⟩⟩)
theorem lit_pow {i j : Int} (h : CPow i j) : Lit K (tOp Tp.rPow (tC (.int i)) (tC (.int j))) (.int (i ^ j.toNat)) := fun _ _ k => wr_iC (g := fun i j => .int (i ^ j.toNat)) (fun _ _ _ => .int _) (wr_int ⟨_, le_rfl, wr_int ⟨_, le_rfl, h, k⟩⟩)
theorem lit_tup {tr : TA} {ds : List PyData} (h : Lits K tr ds) (hl : ds.length ≤ 1000) : Lit K (tTup tr) (.tuple ds) := fun _ _ k => wr_less (wr_tup (lits_wa h ⟨by rw [List.length_map]; exact hl, _, le_TD, k⟩))
theorem lit_lst {tr : TA} {ds : List PyData} (h : Lits K tr ds) (hl : ds.length ≤ 1000) : Lit K (tLst tr) (.list ds) := fun _ _ k => wr_less (wr_lst (lits_wa h ⟨by rw [List.length_map]; exact hl, _, le_LD, k⟩))
theorem Lit.s {te : TE} {d : PyData} (h : Lit K te d) : LitS K te d := fun Γ Φ k => wr_less (h Γ _ ⟨_, le_DS, k⟩)
theorem not_tape {kvs : List (Key × V)} (h : kvs.length ≠ 2) : ¬ IsT (.dK kvs) := fun ⟨d, m, z, _⟩ => by
  cases z
  exact h rfl
theorem litS_dnew : LitS K tDNewK (.dict []) := fun Γ Φ k O0 H0 σ H e Q q => fun p hp => by
  obtain ⟨n1, _⟩ := new_cut (o := .dK []) e hp
  exact q _ k _ _ (Gr.new hp) (stay_dk (kvs := []) n1 (not_tape (by simp)))
theorem litS_done {kk : Key} {i : Int} : LitS K (tDisp [(tC (kV kk), tC (.int i))]) (.dict [(keyD kk, .int i)]) := fun Γ Φ k O0 H0 σ H e Q q => fun p hp => by
  refine ⟨upd_same, [(kk, .int i)], rfl, (by show 1 ≤ 15; decide), ?_⟩
  rw [upd_upd]
  obtain ⟨n1, _⟩ := new_cut (o := .dK [(kk, .int i)]) e hp
  exact q _ k _ _ (Gr.new hp) (stay_dk (kvs := [(kk, i)]) n1 (not_tape (by simp)))
def pAny (K : PySem.W.Frag) : SpP := fun As Φ => ∃ A, As = [A] ∧ Le A aTape ∧ ∀ d ∈ dAny, Φ (aS K d)
theorem any1 : LitsS K (tas iAny1) dAny1 := by
  refine .cons lit_non.s (.cons lit_bl.s (.cons lit_bl.s ?_))
  iterate 7 refine .cons lit_int.s ?_
  refine .cons lit_sub.s (.cons (lit_pow ⟨by decide, by decide, by decide⟩).s ?_)
  iterate 7 refine .cons lit_str.s ?_
  exact .nil
theorem any2 : LitsS K (tas iAny2) dAny2 := by
  refine .cons (lit_tup .nil (by simp)).s (.cons (lit_lst .nil (by simp)).s (.cons litS_dnew ?_))
  refine .cons (lit_tup (.cons lit_int .nil) (by simp)).s (.cons (lit_lst (.cons lit_int .nil) (by simp)).s (.cons (litS_done (kk := .inr "a")) ?_))
  refine .cons (lit_tup (.cons lit_int (.cons lit_int .nil)) (by simp)).s ?_
  refine .cons (lit_lst (.cons (lit_tup (.cons lit_int (.cons lit_int .nil)) (by simp)) .nil) (by simp)).s ?_
  refine .cons (lit_tup (.cons (lit_tup (.cons lit_int (.cons lit_int .nil)) (by simp)) .nil) (by simp)).s ?_
  refine .cons (lit_tup (.cons lit_int (.cons lit_int .nil)) (by simp)).s ?_
  refine .cons (lit_tup (.cons lit_int (.cons lit_bl .nil)) (by simp)).s ?_
  refine .cons (lit_tup (.cons (lit_tup (.cons lit_int (.cons lit_bl .nil)) (by simp)) .nil) (by simp)).s ?_
  refine .cons (lit_lst (.cons (lit_tup (.cons (lit_tup (.cons lit_int (.cons lit_bl .nil)) (by simp)) .nil) (by simp)) .nil) (by simp)).s ?_
  exact .nil
theorem any3 : LitsS K (tas iAny3) dAny3 := by
  refine .cons (lit_tup (.cons lit_non .nil) (by simp)).s ?_
  refine .cons (lit_tup (.cons lit_int (.cons lit_bl .nil)) (by simp)).s ?_
  refine .cons (lit_tup (.cons lit_int (.cons lit_int (.cons lit_int .nil))) (by simp)).s ?_
  refine .cons (lit_tup (.cons lit_str .nil) (by simp)).s ?_
  refine .cons (lit_tup (.cons lit_str (.cons (lit_tup (.cons lit_int (.cons lit_int .nil)) (by simp)) .nil)) (by simp)).s ?_
  refine .cons (litS_done (kk := .inl 0)) ?_
  refine .cons (lit_lst (.cons lit_non .nil) (by simp)).s ?_
  refine .cons (lit_tup (.cons lit_int (.cons lit_int (.cons lit_int .nil))) (by simp)).s ?_
  refine .cons (lit_tup (.cons lit_int (.cons lit_bl .nil)) (by simp)).s ?_
  exact .cons lit_int.s .nil
theorem dAny_len : dAny1.length = 19 ∧ dAny2.length = 13 ∧ dAny3.length = 10 := by decide
theorem pure_any : ∀ vs H Q E, spW (pAny K) vs H Q E → t_any K { nx := fun _ H' => Q .non H', rt := Q } (L2.start NAny vs) H := fn_W (K := K) fun As Φ ⟨A, hA, l, k⟩ => by
  subst hA
  refine ⟨1, rfl, ?_⟩
  unfold t_any
  obtain ⟨l1, l2, l3⟩ := dAny_len
  refine ws_seq (ws_asg (wr_lst (litsS_wa (any1 (K := K)) ⟨by rw [List.length_map, l1]; decide, ?_⟩)))
  refine ws_seq (ws_asg (fr_L (fr_cat (wr_var rfl ⟨_, le_rfl, wr_lst (litsS_wa (any2 (K := K)) ⟨by rw [List.length_map, l2]; decide, _, le_rfl, by rw [List.length_map, List.length_map, l1, l2]; decide, _, rfl, ?_⟩)⟩))))
  refine ws_ret (wr_one (K := K) (wr_var (A := A) rfl ⟨l, fr_L (fr_cat (wr_var rfl ⟨_, le_rfl, wr_lst (litsS_wa (any3 (K := K)) ⟨by rw [List.length_map, l3]; decide, _, le_rfl, by rw [List.length_append, List.length_map, List.length_map, List.length_map, l1, l2, l3]; decide, _, rfl, _, le_rfl, ?_, ?_, fun C hC => ?_⟩)⟩))⟩))
  · intro z
    have := congrArg List.length z
    rw [List.length_append, List.length_append, List.length_map, l1] at this
    simp at this
  · rw [List.length_append, List.length_append, List.length_map, List.length_map, List.length_map, l1, l2, l3]
    decide
  · rw [← List.map_append, ← List.map_append] at hC
    obtain ⟨d, hd, rfl⟩ := List.mem_map.mp hC
    exact k d hd
/-! ### odd things -/
def oddD (n w : Int) : List PyData := [.tuple [.int 0, .int 0], .tuple [.int (n - 1), .int (w - 1)], .tuple [.int n, .int 0], .tuple [.int 0, .int w], .tuple [.int (0 - 1), .int 0], .tuple [.int 0, .int (0 - 1)], .tuple [.bool true, .int 0], .tuple [.int 0, .bool false], .list [.int 0, .int 0], .tuple [.int 0], .tuple [.int 0, .int 0, .int 0],
  .none, .int 0, .str "00", .tuple [.int 0, .none], .tuple [.int (10 ^ (30 : Int).toNat), .int 0]]
def pOdd (K : PySem.W.Frag) : SpP := fun As Φ => ∃ A B p cols ring, As = [A, B] ∧ Le A aTape ∧ Le B (aD K (netD p cols ring)) ∧ (∀ d ∈ oddD (cols.length : Int) p.w ++ dAny, Φ (aS K d))
theorem litΓ {Γ : List SK} {te : TE} {d : PyData} {Φ : AV → Prop} (h : WR Γ te fun A => Le A (aD K d)) (k : Φ (aD K d)) : WR Γ te Φ := wr_less (wr_mono h fun A l => ⟨_, l, k⟩)
theorem pairΓ {Γ : List SK} {t1 t2 : TE} {a b : PyData} {Φ : AV → Prop} (h1 : WR Γ t1 fun A => Le A (aD K a)) (h2 : WR Γ t2 fun A => Le A (aD K b)) (k : Φ (aS K (.tuple [a, b]))) : WR Γ (tTup (tCons t1 (tCons t2 tNil))) Φ :=
  wr_less (wr_tup (wa_cons (litΓ h1 (wa_cons (litΓ h2 (wa_nil ⟨by simp, _, (le_TD (ds := [a, b])).trans le_DS, k⟩))))))
theorem le_i {i : Int} {Γ : List SK} : WR Γ (tC (.int i)) fun A => Le A (aD K (.int i)) := wr_int le_rfl
theorem pure_odd : ∀ vs H Q E, spW (pOdd K) vs H Q E → t_odd K Cs (pAny K) { nx := fun _ H' => Q .non H', rt := Q } (L2.start N_odd vs) H := fn_W (K := K) fun As Φ ⟨A, B, p, cols, ring, hA, lA, lB, k⟩ => by
  subst hA
  refine ⟨3, rfl, ?_⟩
  unfold t_odd
  have hL : HasLen K (aD K (.list (dCols cols))) cols.length := by
    have z := hl_Q (le_DQ (K := K) (ds := dCols cols))
    rw [dcols_len] at z
    exact z
  refine ws_seq (ws_par (wa_cons (wr_ixT (wr_ixL (wr_var (A := B) rfl ⟨_, lB.trans le_net, wr_int ⟨0, _, le_rfl, rfl, _, le_plan, wr_int ⟨0, _, le_rfl, rfl, wa_cons (wr_len (wr_ixL (wr_var (A := B) rfl ⟨_, lB.trans le_net, wr_int ⟨1, _, le_rfl, rfl, _, hL, wa_nil ⟨_, _, rfl, rfl, ?_⟩⟩⟩)))⟩⟩⟩)))))
  show WS [.is A, .is B, .is (aI K p.w), .is (aI K (cols.length : Int)), .any] _ _
  refine ws_seq (ws_asg (wr_lst (wa_cons ((Lit.s (K := K) (lit_tup (.cons lit_int (.cons lit_int .nil)) (by simp))) _ _ (wa_cons (pairΓ (K := K) (wr_sub (wr_var rfl ⟨_, le_rfl, wr_int ⟨_, le_rfl, le_rfl⟩⟩)) (wr_sub (wr_var rfl ⟨_, le_rfl, wr_int ⟨_, le_rfl, le_rfl⟩⟩)) (wa_cons (pairΓ (K := K) (wr_var rfl le_rfl) le_i (wa_cons (pairΓ (K := K) le_i (wr_var rfl le_rfl) ?_))))))))))
  refine litsS_wa (K := K) (ds := [.tuple [.int (0 - 1), .int 0], .tuple [.int 0, .int (0 - 1)], .tuple [.bool true, .int 0], .tuple [.int 0, .bool false], .list [.int 0, .int 0], .tuple [.int 0], .tuple [.int 0, .int 0, .int 0]]) ?_ ⟨by simp, ?_⟩
  · refine .cons (lit_tup (.cons lit_sub (.cons lit_int .nil)) (by simp)).s (.cons (lit_tup (.cons lit_int (.cons lit_sub .nil)) (by simp)).s ?_)
    refine .cons (lit_tup (.cons lit_bl (.cons lit_int .nil)) (by simp)).s (.cons (lit_tup (.cons lit_int (.cons lit_bl .nil)) (by simp)).s ?_)
    exact .cons (lit_lst (.cons lit_int (.cons lit_int .nil)) (by simp)).s (.cons (lit_tup (.cons lit_int .nil) (by simp)).s (.cons (lit_tup (.cons lit_int (.cons lit_int (.cons lit_int .nil))) (by simp)).s .nil))
  refine ws_ret (wr_one (K := K) (wr_var (A := A) rfl ⟨lA, fr_L (fr_cat (wr_var rfl ⟨_, le_rfl, wr_lst ?_⟩))⟩))
  refine wa_cons ((Lit.s (K := K) lit_non) _ _ (wa_cons ((Lit.s (K := K) lit_int) _ _ (wa_cons ((Lit.s (K := K) lit_str) _ _ (wa_cons ((Lit.s (K := K) (lit_tup (.cons lit_int (.cons lit_non .nil)) (by simp))) _ _ (wa_cons ((Lit.s (K := K) (lit_tup (.cons (lit_pow ⟨by decide, by decide, by decide⟩) (.cons lit_int .nil)) (by simp))) _ _ (wa_cons (wr_call (wa_cons (wr_var (A := A) rfl (wa_nil ⟨A, rfl, lA, fun d hd => wa_nil ⟨by simp, _, le_rfl, by simp, _, rfl, _, le_rfl, by simp, by simp, fun C hC => ?_⟩⟩))))))))))))))
  have e : (∃ x ∈ oddD (cols.length : Int) p.w, C = aS K x) ∨ C = aS K d := by
    simp only [List.map_cons, List.map_nil, List.cons_append, List.nil_append, List.mem_cons, List.not_mem_nil, or_false] at hC
    rcases hC with h | h | h | h | h | h | h | h | h | h | h | h | h | h | h | h | h
    all_goals first
      | exact .inr h
      | exact .inl ⟨_, by unfold oddD; simp, h⟩
  rcases e with ⟨x, hx, rfl⟩ | rfl
  · exact k x (List.mem_append_left _ hx)
  · exact k d (List.mem_append_right _ hd)
end
end G.J

set_option maxHeartbeats 400000
/-! Some seats; unlike texts; whether these are seats. -/
namespace G.J
open PySem PySem.Spec PyProof.Rows L2 Tp G
section
variable {K : PySem.W.Frag} {Cs : Cl} {Γ : List SK} {te tn : TE} {Φ : AV → Prop} {Ψ : OC → Prop}
theorem cut_take (xs : List V) (n : Nat) : cutV xs none (some (n : Int)) = xs.take n := by
  unfold cutV
  rw [HT.sIx_none, HT.sIx_nat]
  simp only [List.drop_zero, Nat.sub_zero]
  rw [List.take_eq_take_iff]
  omega
theorem allV_take {H : Hp} : ∀ {As : List AV} {vs : List V} (n : Nat), AllV As vs H → AllV (As.take n) (vs.take n) H
  | _, _, 0, _ => by
    rw [List.take_zero, List.take_zero]
    exact AllP.nil
  | [], _, n + 1, .nil => AllP.nil
  | _ :: _, _, n + 1, .cons h t => .cons h (allV_take n t)
theorem fr_take (h : WR Γ te fun A => ∃ As, Le A (aQ K As) ∧ WR Γ tn fun B => ∃ n : Nat, Le B (aI K (n : Int)) ∧ Ψ (oL (As.take n))) : FR Γ (tSl (rSlL K) te tNoPart (tPart tn)) Ψ := fun O0 H0 σ H e Q q =>
  h O0 H0 σ H e _ fun A ⟨As, la, hb⟩ v H1 g p => hb O0 H0 σ H1 (e.grow g) _ fun B ⟨n, lb, k⟩ w H2 g2 p2 => by
    obtain ⟨r, xs, rfl, hs, hx⟩ := la _ _ p
    refine ⟨(n : Int), dp_int (lb _ _ p2), r, xs, rfl, (gr_dels1.trans g2).sql hs, fun z hz => ?_⟩
    rw [cut_take]
    exact q _ k z _ H2 (g.trans g2) hz ⟨_, rfl, allV_take n (allV_grow (gr_delsM g2) hx)⟩
def pSome (K : PySem.W.Frag) : SpP := fun As Φ => ∃ A B C p cols ring, ∃ (w m : Nat), As = [A, B, C] ∧ Le A aTape ∧ Le B (aD K (netD p cols ring)) ∧ p.w = (w : Int) ∧ w ≤ 3 ∧ cols.length ≤ 63 ∧ Le C (aI K (m : Int)) ∧ m ≤ 1000 ∧
  ∀ l : List Pr, l.Nodup → (∀ s ∈ l, s ∈ gridP cols.length w) → l.length ≤ m → Φ (aL (aPrs K l))
theorem pure_some : ∀ vs H Q E, spW (pSome K) vs H Q E → t_some K Cs (pSpots K) { nx := fun _ H' => Q .non H', rt := Q } (L2.start N_some vs) H := fn_W (K := K) fun As Φ ⟨A, B, C, p, cols, ring, w, m, hA, lA, lB, hw, hw3, hl, lC, hm, k⟩ => by
  subst hA
  refine ⟨0, rfl, ?_⟩
  unfold t_some
  have gl : (gridP cols.length w).length ≤ 189 := by
    rw [gridP_len]
    exact Nat.mul_le_mul hl hw3
  refine ws_ret (wr_L (fr_take (wr_shuf (wr_var (A := A) rfl ⟨lA, wr_call (wa_cons (wr_var (A := B) rfl (wa_nil ⟨B, p, cols, ring, w, rfl, lB, hw, hw3, hl, (gridP cols.length w).map pairD, .inr ?_, by rw [List.length_map]; omega, items_pairs _, fun es pm => ?_⟩)))⟩))))
  · have z := le_LD (K := K) (ds := (gridP cols.length w).map pairD)
    rw [List.map_map] at z
    exact z
  · obtain ⟨l', rfl, pm'⟩ := perm_back pm
    refine ⟨_, le_LQ, wr_pick (K := K) (wr_var (A := A) rfl ⟨lA, wr_add (wr_var (A := C) rfl ⟨_, lC, wr_int ⟨_, le_rfl, m + 1, by simpa using le_rfl, by omega, by omega, fun r hr => ⟨r, le_rfl, _, fun _ _ z => z, ?_⟩⟩⟩)⟩)⟩
    rw [List.map_map, ← List.map_take]
    refine k (l'.take r) ((pm'.nodup_iff.mpr (grid_nd _ _)).sublist (List.take_sublist _ _)) (fun s hs => pm'.mem_iff.mp (List.mem_of_mem_take hs)) ?_
    rw [List.length_take]
    omega
/-! ### unlike texts -/
abbrev aSs (K : PySem.W.Frag) (ss : List Str) : List AV := ss.map fun s => aD K (.str s)
structure Dd (us l : List Str) : Prop where
  m : ∀ x, x ∈ us ↔ x ∈ l
  le : us.length ≤ l.length
  nd : us.length = l.length ↔ l.Nodup
theorem dd_new {us l : List Str} {x : Str} (h : Dd us l) (n : x ∉ us) : Dd (us ++ [x]) (l ++ [x]) := by
  refine ⟨fun y => by simp [h.m y], by simp [h.le], ?_⟩
  rw [List.length_append, List.length_append, List.nodup_append]
  have := h.nd
  constructor
  · intro e
    refine ⟨this.mp (by simpa using e), by simp, fun a ha b hb => ?_⟩
    rw [List.mem_singleton.mp hb]
    rintro rfl
    exact n ((h.m a).mpr ha)
  · intro e
    have := this.mpr e.1
    simp [this]
theorem dd_old {us l : List Str} {x : Str} (h : Dd us l) (n : x ∈ us) : Dd us (l ++ [x]) := by
  refine ⟨fun y => ?_, by have := h.le; simp; omega, ?_⟩
  · rw [h.m y, List.mem_append, List.mem_singleton]
    exact ⟨.inl, fun z => z.elim id fun e => by rw [e]; exact (h.m x).mp n⟩
  · constructor
    · intro e
      have := h.le
      rw [List.length_append, List.length_singleton] at e
      omega
    · intro e
      rw [List.nodup_append] at e
      exact absurd rfl (e.2.2 x ((h.m x).mp n) x (by simp))
def pUn (K : PySem.W.Frag) : SpP := fun As Φ => ∃ A, ∃ ss : List Str, As = [A] ∧ Le A (aQ K (aSs K ss)) ∧ ss.length ≤ 1000 ∧ ∀ us : List Str, (us.length = ss.length ↔ ss.Nodup) → Φ (aL (aSs K us))
theorem pure_unlike : ∀ vs H Q E, spW (pUn K) vs H Q E → t_unlike K Cs { nx := fun _ H' => Q .non H', rt := Q } (L2.start N_unlike vs) H := fn_W (K := K) fun As Φ ⟨A, ss, hA, l, hl, k⟩ => by
  subst hA
  refine ⟨2, rfl, ?_⟩
  unfold t_unlike
  refine ws_seq (ws_asgN (fr_lst (wa_nil ⟨by simp, fun p => ?_⟩)))
  refine ws_seq (ws_for (wi_list (wr_var (A := A) rfl ⟨_, l, fun i Γ' => ∃ us s, Γ' = [.is A, .own p (oL (aSs K us)), s] ∧ Dd us (ss.take i), ⟨[], _, rfl, fun _ => by simp, by simp, by simp⟩, fun i D Γ' hi ⟨us, s, e, dd⟩ => ?_, fun Γ' ⟨us, s, e, dd⟩ => ?_⟩)))
  · obtain ⟨x, hx, rfl⟩ := mapAt hi
    subst e
    have ll : us.length ≤ 1000 := by
      have := dd.le
      rw [List.length_take] at this
      omega
    refine ⟨[2], wg_name (ws_if (wt_test (K := K) (wr_notInO (i := 1) (p := p) (ss := us) rfl (wr_var rfl ⟨x, le_rfl, _, le_rfl, fun h => ?_, fun h => ?_⟩))))⟩
    · have h : x ∉ us := by simpa using h
      refine ws_append (p := p) (As := aSs K us) rfl (by rw [List.length_map]; omega) (wr_var rfl ⟨us ++ [x], SK.is (aD K (.str x)), ?_, ?_⟩)
      · rw [show aSs K (us ++ [x]) = aSs K us ++ [aD K (.str x)] by simp [aSs]]
        rfl
      · rw [take_snoc hx]
        exact dd_new dd h
    · have h : x ∈ us := by simpa using h
      exact ws_next ⟨us, _, rfl, by rw [take_snoc hx]; exact dd_old dd h⟩
  · subst e
    rw [List.length_map, List.take_length] at dd
    exact ws_retO (p := p) (As := aSs K us) rfl (k us dd.nd)
/-! ### whether these are seats -/
def okD (d : PyData) : Prop := d.showable = true ∧ d.shown.length ≤ sizeLine ∧ d.depth ≤ 60 ∧ PyData.strOk d.shown = true
theorem okD_fits {d : PyData} (h : fitsB d = true) : okD d := by
  unfold fitsB at h
  simp only [Bool.and_eq_true, decide_eq_true_eq] at h
  exact ⟨h.1.1.1, Nat.le_trans h.1.1.2 (by decide), h.1.2, h.2⟩
def knownS (n w : Nat) : List Str := (gridP n w).map fun s => (pairD s).shown
theorem fits_pairs : ∀ a < 64, ∀ b < 4, fitsB (pairD ((a : Nat), (b : Nat))) = true := by decide +kernel
theorem okD_pair {n w : Nat} {s : Pr} (hn : n ≤ 63) (hw : w ≤ 3) (h : s ∈ gridP n w) : okD (pairD s) := by
  have := mem_grid.mp h
  obtain ⟨x, y⟩ := s
  obtain ⟨a, rfl⟩ : ∃ a : Nat, x = (a : Int) := ⟨x.toNat, by simp at this; omega⟩
  obtain ⟨b, rfl⟩ : ∃ b : Nat, y = (b : Int) := ⟨y.toNat, by simp at this; omega⟩
  simp at this
  exact okD_fits (fits_pairs a (by omega) b (by omega))
def areSB (n w : Nat) (ds : List PyData) : Bool := decide ((∀ d ∈ ds, d.shown ∈ knownS n w) ∧ (ds.map PyData.shown).Nodup)
def pAreSp (K : PySem.W.Frag) : SpP := fun As Φ => ∃ A B p cols ring, ∃ w : Nat, As = [A, B] ∧ Le A (aD K (netD p cols ring)) ∧ p.w = (w : Int) ∧ w ≤ 3 ∧ cols.length ≤ 63 ∧
  ((∃ ds, Le B (aQ K (ds.map (aS K))) ∧ HasTy K B (.type "list") ∧ ds.length ≤ 100 ∧ (∀ d ∈ ds, okD d) ∧ Φ (aB K (areSB cols.length w ds))) ∨ ∃ t, HasTy K B t ∧ PySem.W.kitOne K t (.type "list") = some false ∧ Φ (aB K false))
theorem item_str {x : Str} (h : PyData.strOk x = true) : item (.str x) = true := by
  unfold item
  simp [noL, PyData.canLay0, PyData.depth, h]
theorem items_strs {ss : List Str} (h : ∀ x ∈ ss, PyData.strOk x = true) : ∀ d ∈ ss.map PyData.str, item d = true := fun d hd => by
  obtain ⟨x, hx, rfl⟩ := List.mem_map.mp hd
  exact item_str (h x hx)
theorem ty_list : subTy "list" "list" = true := by decide
theorem pure_areSp (KT : KitTy K) : ∀ vs H Q E, spW (pAreSp K) vs H Q E → t_areSp K Cs (pSpots K) (pUn K) { nx := fun _ H' => Q .non H', rt := Q } (L2.start N_areSp vs) H := fn_W (K := K) fun As Φ ⟨A, B, p, cols, ring, w, hA, lA, hw, hw3, hl, k⟩ => by
  subst hA
  refine ⟨5, rfl, ?_⟩
  unfold t_areSp
  have kl : PySem.W.kitOne K (.type "list") (.type "list") = some true := KT (.list []) "list" (by simp)
  rcases k with ⟨ds, lB, tB, hd, ok, k⟩ | ⟨t, tB, kt, k⟩
  rotate_left
  · exact ws_seq (ws_if (wt_not (wt_B (K := K) (wr_isi (.ty "list") (wr_var (A := B) rfl ⟨t, false, tB, kt, false, le_rfl, fun _ => ws_ret (wr_bl (K := K) k), fun z => (nomatch z)⟩)))))
  refine ws_seq (ws_if (wt_not (wt_B (K := K) (wr_isi (.ty "list") (wr_var (A := B) rfl ⟨_, true, tB, kl, true, le_rfl, fun z => (nomatch z), fun _ => ws_next ?_⟩)))))
  refine ws_seq (ws_asg (wr_L (fr_map (X := Pr) (S := [4]) (by simp) rfl (wi_list (wr_call (wa_cons (wr_var (A := A) rfl (wa_nil ⟨A, p, cols, ring, w, rfl, lA, hw, hw3, hl, _, le_LQ, gridP cols.length w, _, fun s => aD K (.str (pairD s).shown), rfl, ?_, fun s hs => ?_, _, fun _ _ z => z, ?_⟩))))))))
  · rw [gridP_len]
    have := Nat.mul_le_mul hl hw3
    omega
  · obtain ⟨o1, o2, o3, _⟩ := okD_pair hl hw3 hs
    exact wg_name ⟨rfl, wr_repr (wr_var rfl ⟨_, sho_S le_DS, o1, o2, o3, le_rfl⟩)⟩
  refine ws_seq (ws_asg (wr_L (fr_map (X := PyData) (S := [5]) (by simp) rfl (wi_list (wr_var (A := B) rfl ⟨_, lB, ds, aS K, fun d => aD K (.str d.shown), rfl, by omega, fun d hd => ?_, _, fun _ _ z => z, ?_⟩)))))
  · obtain ⟨o1, o2, o3, _⟩ := ok d hd
    exact wg_name ⟨rfl, wr_repr (wr_var rfl ⟨_, sho_S le_rfl, o1, o2, o3, le_rfl⟩)⟩
  have e1 : ((gridP cols.length w).map fun s => aD K (.str (pairD s).shown)) = aSs K (knownS cols.length w) := by
    unfold knownS aSs
    rw [List.map_map]
    rfl
  have e2 : (ds.map fun d => aD K (.str d.shown)) = aSs K (ds.map PyData.shown) := by
    unfold aSs
    rw [List.map_map]
    rfl
  rw [e1, e2]
  have sok : ∀ x ∈ ds.map PyData.shown, PyData.strOk x = true := fun x hx => by
    obtain ⟨d, hd, rfl⟩ := List.mem_map.mp hx
    exact (ok d hd).2.2.2
  generalize hss : ds.map PyData.shown = ss at k sok ⊢
  have ssl : ss.length ≤ 100 := by rw [← hss, List.length_map]; exact hd
  show WS [.is A, .is B, .is (aL (aSs K (knownS cols.length w))), .is (aL (aSs K ss)), .any, .any, .any] _ _
  have eqnil : ∀ l : List Str, Le (aL (aSs K l)) (aD K (.list (l.map PyData.str))) := fun l => by
    have z := le_LD (K := K) (ds := l.map PyData.str)
    rw [List.map_map] at z
    exact z
  have kk : areSB cols.length w ds = decide ((∀ x ∈ ss, x ∈ knownS cols.length w) ∧ ss.Nodup) := by
    unfold areSB
    rw [hss, ← hss, decide_eq_decide]
    simp
  rw [kk] at k
  refine ws_ret (wr_andV (K := K) (wr_eqD (wr_L (fr_filt (X := Str) (S := [6]) (by simp) rfl (wi_list (wr_var rfl ⟨_, le_LQ, ss, _, fun x => aD K (.str x), fun x => !decide (x ∈ knownS cols.length w), rfl, by omega, fun x hx => ?_, _, fun _ _ z => z, _, eqnil _, wr_lst (wa_nil ⟨by simp, _, le_LD (ds := []), shaped_list (items_strs fun x hx => sok x (List.mem_filter.mp hx).1), shaped_list (by simp), _, le_rfl, fun h => ?_, fun h => ?_⟩)⟩))))))
  · exact wg_name ⟨rfl, wt_test (K := K) (wr_inS (wr_var rfl ⟨x, le_rfl, wr_var rfl ⟨_, le_LQ, _, le_rfl, rfl, fun _ => wr_var rfl le_rfl⟩⟩))⟩
  · rw [eqv_nil, List.isEmpty_iff, List.map_eq_nil_iff, List.filter_eq_nil_iff] at h
    have hin : ∀ x ∈ ss, x ∈ knownS cols.length w := fun x hx => by simpa using h x hx
    refine wr_eqI (wr_len (wr_call (wa_cons (wr_var rfl (wa_nil ⟨_, ss, rfl, le_LQ, by omega, fun us hus => ⟨us.length, ?_, _, le_rfl, wr_len (wr_var rfl ⟨ss.length, ?_, _, le_rfl, ?_⟩)⟩⟩)))))
    · have z := hl_Q (le_LQ (K := K) (As := aSs K us))
      rw [List.length_map] at z
      exact z
    · have z := hl_Q (le_LQ (K := K) (As := aSs K ss))
      rw [List.length_map] at z
      exact z
    · have : decide ((us.length : Int) = (ss.length : Int)) = decide ((∀ x ∈ ss, x ∈ knownS cols.length w) ∧ ss.Nodup) := by
        rw [decide_eq_decide, ← hus]
        constructor
        · intro e
          exact ⟨hin, by omega⟩
        · intro e
          omega
      rw [← this] at k
      exact k
  · rw [eqv_nil] at h
    have : decide ((∀ x ∈ ss, x ∈ knownS cols.length w) ∧ ss.Nodup) = false := by
      refine decide_eq_false fun z => ?_
      have : ((ss.filter fun x => !decide (x ∈ knownS cols.length w)).map PyData.str).isEmpty = true := by
        rw [List.isEmpty_iff, List.map_eq_nil_iff, List.filter_eq_nil_iff]
        intro x hx
        simp [z.1 x hx]
      rw [this] at h
      cases h
    rw [this] at k
    exact k
end
end G.J

set_option maxHeartbeats 400000
/-! A web's seats, neighbours and cells are right. -/
namespace G.J
open PySem PySem.Spec PyProof.Rows L2 Tp G
section
variable {K : PySem.W.Frag} {Cs : Cl} {Γ : List SK} {te tb tk t1 t2 : TE} {ta : TA} {Φ : AV → Prop} {Ψ : OC → Prop} {E : EA} {u : TS}
theorem gApp1 (x : V) (zs : List V) : gApp [x] zs = x :: zs := rfl
theorem wr_methK {C : Addr} {m : Str} {n : Nat} {pre : SpP} (h : WR Γ te fun A => IsObj A C m ∧ WA Γ ta fun Bs => Bs.length = n ∧ pre (A :: Bs) Φ) : WR Γ (tMethK C m n (spW pre) gApp E0 te ta) Φ := fun O0 H0 σ H e Q q =>
  h O0 H0 σ H e _ fun A ⟨io, k⟩ v H1 g p => by
    obtain ⟨a, dx, fs, rfl, ha, hm⟩ := io _ _ p
    exact ⟨a, dx, fs, rfl, (dels_some ha).2, hm, k O0 H0 σ H1 (e.grow g) _ fun Bs ⟨hn, hp⟩ zs H2 g2 ps => ⟨by rw [allV_len ps, hn], A :: Bs, Φ, O0 ++ owns Γ, hp, fun p hp => ((e.grow g).grow g2).there hp, .cons (A.g _ _ _ (gr_delsM g2) p) ps, fun A a v H3 g3 p => q A a v H3 ((g.trans g2).trans g3) p⟩⟩
theorem fr_methK {C : Addr} {m : Str} {n : Nat} {pre : SpFP} (h : WR Γ te fun A => IsObj A C m ∧ WA Γ ta fun Bs => Bs.length = n ∧ pre (A :: Bs) Ψ) : FR Γ (tMethK C m n (spF pre) gApp E0 te ta) Ψ := fun O0 H0 σ H e Q q =>
  h O0 H0 σ H e _ fun A ⟨io, k⟩ v H1 g p => by
    obtain ⟨a, dx, fs, rfl, ha, hm⟩ := io _ _ p
    exact ⟨a, dx, fs, rfl, (dels_some ha).2, hm, k O0 H0 σ H1 (e.grow g) _ fun Bs ⟨hn, hp⟩ zs H2 g2 ps => ⟨by rw [allV_len ps, hn], A :: Bs, Ψ, O0 ++ owns Γ, hp, fun p hp => ((e.grow g).grow g2).there hp, .cons (A.g _ _ _ (gr_delsM g2) p) ps, fun c k p o H3 g3 np hp r => fr_back ((e.grow g).grow g2) g3 np hp r fun p o H4 g4 hp r => q c k p o H4 ((g.trans g2).trans g4) hp r⟩⟩
/-- a list of our own against data -/
theorem wr_neDO {i : Nat} {p : Addr} {ds : List PyData} (hi : Γ[i]? = some (.own p (oL (ds.map (aD K))))) (h : WR Γ tb fun B => ∃ d', Le B (aD K d') ∧ SeqAt.shaped (.list ds) = true ∧ SeqAt.shaped d' = true ∧ Φ (aB K (!PyData.eqv (.list ds) d'))) : WR Γ (tOp (rNeD K) (tVar i) tb) Φ := fun O0 H0 σ H e Q q => by
  obtain ⟨h1, _⟩ := e.own hi
  refine ⟨_, h1, h O0 H0 σ H e _ fun B ⟨d', lb, s1, s2, k⟩ w H2 g2 p2 => ?_⟩
  obtain ⟨_, o, h2, xs, rfl, h4⟩ := (e.grow g2).own hi
  exact ⟨_, d', .lst (SqL.of h2) (dpAll_gr gr_dels1 _ _ (allV_D.mp h4)), dp_gr gr_dels1 _ _ (lb _ _ p2), s1, s2, q _ k _ H2 g2 (.bl _)⟩
theorem prs_hid {H : Hp} {O : List Addr} (out : ∀ p ∈ O, Hid H p) {l : List Pr} {xs : List V} (h : AllV (aPrs K l) xs H) : AllV (aPrs K l) xs (dels O H) := by
  have h' : DpAll K H xs (l.map pairD) := allV_D.mp (by rw [List.map_map]; exact h)
  have z := allV_D.mpr (dpAll_hid out _ _ (noL_pairs l) h')
  rw [List.map_map] at z
  exact z
theorem dels_dels {O O' : List Addr} {H : Hp} : dels O (dels O' H) = dels (O ++ O') H := by
  funext a
  unfold dels
  by_cases h : a ∈ O <;> by_cases h' : a ∈ O' <;> simp [h, h']
/-- two new lists of pairs in a list; the first one is emptied -/
theorem ws_clear2 {i : Nat} {l1 l2 : List Pr} (h1 : FR Γ t1 fun c => c = oL (aPrs K l1)) (h2 : FR Γ t2 fun c => c = oL (aPrs K l2)) (k : WS (Γ.set i (.is (aL [aL [], aL (aPrs K l2)]))) u E) (hi : i < Γ.length) :
    WS Γ (tSeq (tAsg (tLst (tCons t1 (tCons t2 tNil))) (gName i)) (tSeq (tDrop (tBM0 K "list" rClear (tOp (rIxL K) (tVar i) (tC (.int 0))))) u)) E := fun O0 H0 σ H e D f => by
  refine h1 O0 H0 σ H e _ fun c hc p1 o1 H1 g1 n1 r1 => ?_
  subst hc
  obtain ⟨xs, rfl, hx⟩ := r1
  have e1 := e.grow (g1.trans (Gr.new (o := .lst xs) n1))
  refine h2 O0 H0 σ _ e1 _ fun c hc p2 o2 H2 g2 n2 r2 => ?_
  subst hc
  obtain ⟨ys, rfl, hy⟩ := r2
  have at1 : H2 p1 = some (.lst xs) := g2.lst upd_same
  have ne12 : p1 ≠ p2 := ne_of_none at1 n2
  refine ⟨by show 2 ≤ sizeLine; decide, fun p3 n3 => ?_⟩
  have g3 := Gr.new (o := .lst [V.ref p1, V.ref p2]) n3
  have gA : Gr H (upd (upd H2 p2 (.lst ys)) p3 (.lst [V.ref p1, V.ref p2])) := (((g1.trans (Gr.new n1)).trans g2).trans (Gr.new n2)).trans g3
  have b1 : (upd H2 p2 (.lst ys)) p1 = some (.lst xs) := by rw [upd_ne ne12]; exact at1
  have c1 : (upd (upd H2 p2 (.lst ys)) p3 (.lst [V.ref p1, V.ref p2])) p1 = some (.lst xs) := g3.lst b1
  have ne13 : p3 ≠ p1 := (ne_of_none b1 n3).symm
  have ne23 : p2 ≠ p3 := ne_of_none (show (upd H2 p2 (.lst ys)) p2 = some (.lst ys) from upd_same) n3
  have np1 : p1 ∉ O0 ++ owns Γ := (e.grow g1).fresh n1
  have np2 : p2 ∉ O0 ++ owns Γ := (e1.grow g2).fresh n2
  have np3 : p3 ∉ O0 ++ owns Γ := ((e1.grow g2).grow (Gr.new n2)).fresh n3
  have hs : i < σ.length := by rw [e.len]; exact hi
  refine ⟨_, List.getElem?_set_self hs, p3, _, (0 : Int), .ref p1, rfl, rfl, SqL.of upd_same, atI_nat (j := 0) rfl, .inl ⟨rfl, _, SqL.of c1⟩, p1, xs, rfl, rfl, c1, ?_⟩
  have gF : Gr H (upd (upd (upd H2 p2 (.lst ys)) p3 (.lst [V.ref p1, V.ref p2])) p1 (.lst [])) := gA.write (g1.back n1)
  generalize hF : upd (upd (upd H2 p2 (.lst ys)) p3 (.lst [V.ref p1, V.ref p2])) p1 (.lst []) = HF at gF ⊢
  have f3 : HF p3 = some (.lst [V.ref p1, V.ref p2]) := by rw [← hF, upd_ne ne13, upd_same]
  have f1 : HF p1 = some (.lst []) := by rw [← hF, upd_same]
  have f2 : HF p2 = some (.lst ys) := by rw [← hF, upd_ne ne12.symm, upd_ne ne23, upd_same]
  have hy2 : AllV (aPrs K l2) ys (cut O0 Γ HF) := by
    have z := prs_hid (O := [p1]) (K := K) (H := cut O0 Γ H2) (fun q hq => by
      rw [List.mem_singleton.mp hq]
      exact ⟨_, by unfold cut; rw [dels_out np1]; exact at1, .inl ⟨_, rfl⟩⟩) hy
    refine allV_grow (gr_of_ex fun a o q => ?_) z
    obtain ⟨m1, q⟩ := dels_some q
    obtain ⟨m2, q⟩ := dels_some q
    unfold cut
    have na1 : a ≠ p1 := fun y => m1 (by simp [y])
    have na2 : a ≠ p2 := ne_of_none q n2
    have na3 : a ≠ p3 := ne_of_none (show (upd H2 p2 (.lst ys)) a = some o by rw [upd_ne na2]; exact q) n3
    rw [dels_out m2, ← hF, upd_ne na1, upd_ne na3, upd_ne na2]
    exact q
  refine k O0 H0 _ HF ((e.grow gF).set i (A := aL [aL [], aL (aPrs K l2)]) (v := .ref p3) ⟨p3, _, rfl, by unfold cut; rw [dels_out np3]; exact f3, .cons ⟨p1, [], rfl, by unfold cut; rw [dels_out np1]; exact f1, .nil⟩ (.cons ⟨p2, ys, rfl, by unfold cut; rw [dels_out np2]; exact f2, hy2⟩ .nil)⟩) D f
/-! ### the def -/
theorem eqv_prs (l m : List Pr) : PyData.eqv (.list (l.map pairD)) (.list (m.map pairD)) = decide (l = m) := by rw [eqv_ll, eqvAll_map eqv_pairD]
theorem le_LP {l : List Pr} : Le (aL (aPrs K l)) (aD K (.list (l.map pairD))) := by
  have z := le_LD (K := K) (ds := l.map pairD)
  rw [List.map_map] at z
  exact z
theorem sh_prs (l : List Pr) : SeqAt.shaped (.list (l.map pairD)) = true := shaped_list (items_pairs l)
theorem sh_cell (x : Cell) : SeqAt.shaped (cellD x) = true := shaped_tup fun d hd => by
  simp only [List.mem_cons, List.not_mem_nil, or_false] at hd
  rcases hd with rfl | rfl <;> simp [item, noL, PyData.canLay0, PyData.depth]
def pRight (K : PySem.W.Frag) (Cs : Cl) : SpP := fun As Φ => ∃ A B p cols ring, ∃ w : Nat, As = [A, B] ∧ Le A (aD K (netD p cols ring)) ∧ Le B (aW K Cs p cols ring) ∧ POk p w ∧ ColsOk p cols ∧ few ring ≤ cols.length ∧ cols.length ≤ 63 ∧ Φ (aB K true)
theorem notW {m : Str} (h : m ≠ "stretch" ∧ m ≠ "closed") : m ∉ [("stretch" : Str), ("closed" : Str)] := by
  simp [h.1, h.2]
theorem pure_right : ∀ vs H Q E, spW (pRight K Cs) vs H Q E → t_right K Cs (pSpots K) (pClose K) (pBox K) (pSeat K Cs) (pCellAt K Cs) (pSeats K Cs) (pNear K Cs) gApp { nx := fun _ H' => Q .non H', rt := Q } (L2.start N_right vs) H := fn_W (K := K) fun As Φ ⟨A, B, p, cols, ring, w, hA, lA, lB, ok, okc, hf, hl, k⟩ => by
  subst hA
  refine ⟨3, rfl, ?_⟩
  unfold t_right
  have hw := ok.hw
  have hw3 := ok.hi
  have seats : ∀ (Γ : List SK) (Ψ : OC → Prop) (j : Nat), Γ[j]? = some (.is B) → Ψ (oL (aPrs K (gridP cols.length w))) → FR Γ (tMeth Cs.W "seats" (spF (pSeats K Cs)) [] E0 (tVar j) tNil) Ψ := fun Γ Ψ j hj kk =>
    fr_meth (wr_var hj ⟨(io_O (notW (by decide))).le lB, wa_nil ⟨B, p, cols, ring, w, rfl, lB, hw, hw3, by omega, kk⟩⟩)
  have spots : ∀ (Γ : List SK) (Φ : AV → Prop) (j : Nat), Γ[j]? = some (.is A) → Φ (aL (aPrs K (gridP cols.length w))) → WR Γ (tCall (spW (pSpots K)) [] E0 (tCons (tVar j) tNil)) Φ := fun Γ Φ j hj kk =>
    wr_call (wa_cons (wr_var hj (wa_nil ⟨A, p, cols, ring, w, rfl, lA, hw, hw3, hl, kk⟩)))
  refine ws_seq (ws_if (wt_test (K := K) (wr_neD (wr_L (seats _ _ _ rfl ⟨_, fun _ _ z => z, _, le_LP, spots _ _ _ rfl ⟨_, le_LP, sh_prs _, sh_prs _, _, le_rfl, fun h => ?_, fun _ => ws_next ?_⟩⟩)))))
  · rw [eqv_prs] at h
    simp at h
  refine ws_clear2 (seats _ _ _ rfl rfl) (seats _ _ _ rfl rfl) ?_ (by simp)
  show WS [.is A, .is B, .is (aL [aL [], aL (aPrs K (gridP cols.length w))]), .any, .any] _ _
  refine ws_seq (ws_if (wt_test (K := K) (wr_neD (wr_ixL (wr_var rfl ⟨_, le_LQ, wr_int ⟨1, _, le_rfl, rfl, _, le_LP, spots _ _ _ rfl ⟨_, le_LP, sh_prs _, sh_prs _, _, le_rfl, fun h => ?_, fun _ => ws_next ?_⟩⟩⟩)))))
  · rw [eqv_prs] at h
    simp at h
  refine ws_seq (ws_for (wi_list (spots _ _ _ rfl ⟨_, le_LQ, fun _ Γ' => ∃ s3 s4, Γ' = [.is A, .is B, .is (aL [aL [], aL (aPrs K (gridP cols.length w))]), s3, s4], ⟨_, _, rfl⟩, fun i C Γ' hi ⟨s3, s4, e⟩ => ?_, fun Γ' ⟨s3, s4, e⟩ => ?_⟩)))
  · obtain ⟨s, hs, rfl⟩ := mapAt hi
    subst e
    have hg := mem_grid.mp (List.mem_of_getElem? hs)
    obtain ⟨x, y⟩ := s
    obtain ⟨a, rfl⟩ : ∃ a : Nat, x = (a : Int) := ⟨x.toNat, by simp at hg; omega⟩
    obtain ⟨b, rfl⟩ : ∃ b : Nat, y = (b : Int) := ⟨y.toNat, by simp at hg; omega⟩
    have ha : a < cols.length := by simp at hg; omega
    have hb : b < w := by simp at hg; omega
    have hcl : cols[a]? = some cols[a] := List.getElem?_eq_getElem ha
    have hln : cols[a].length = w := by
      have := (okc cols[a] (List.getElem_mem ha)).1
      omega
    have hx : cols[a][b]? = some (cols[a][b]'(by omega)) := List.getElem?_eq_getElem (by omega)
    have iso := io_O (C := Cs.W) (fs := [("stretch", aSt K Cs p cols), ("closed", aB K ring)]) (m := "neighbours") (notW (by decide))
    refine ⟨[3], wg_name ?_⟩
    show WS [.is A, .is B, .is (aL [aL [], aL (aPrs K (gridP cols.length w))]), .is (aD K (pairD ((a : Int), (b : Int)))), s4] _ _
    refine ws_seq (ws_asgN (fr_meth (wr_var rfl ⟨iso.le lB, wa_cons (wr_var rfl (wa_nil ⟨B, _, p, cols, ring, w, a, b, rfl, lB, ok, hf, hl, le_rfl, ha, hb, fun q => ?_⟩))⟩)))
    show WS [.is A, .is B, .is (aL [aL [], aL (aPrs K (gridP cols.length w))]), .is (aD K (pairD ((a : Int), (b : Int)))), .own q (oL (aPrs K (nearL p w cols.length ring a b)))] _ _
    have close : ∀ (Γ : List SK) (Φ : AV → Prop), Γ[0]? = some (.is A) → Γ[3]? = some (.is (aD K (pairD ((a : Int), (b : Int))))) → Φ (aL (aPrs K (nearL p w cols.length ring a b))) → WR Γ (tCall (spW (pClose K)) [] E0 (tCons (tVar 0) (tCons (tVar 3) tNil))) Φ := fun Γ Φ h0 h3 kk =>
      wr_call (wa_cons (wr_var h0 (wa_cons (wr_var h3 (wa_nil ⟨A, _, p, cols, ring, w, a, b, rfl, lA, ok, hf, hl, le_rfl, ha, hb, kk⟩)))))
    have box : ∀ (Γ : List SK) (Φ : AV → Prop), Γ[0]? = some (.is A) → Γ[3]? = some (.is (aD K (pairD ((a : Int), (b : Int))))) → Φ (aD K (cellD (cols[a][b]'(by omega)))) → WR Γ (tCall (spW (pBox K)) [] E0 (tCons (tVar 0) (tCons (tVar 3) tNil))) Φ := fun Γ Φ h0 h3 kk =>
      wr_call (wa_cons (wr_var h0 (wa_cons (wr_var h3 (wa_nil ⟨A, _, p, cols, ring, a, b, _, _, rfl, lA, le_rfl, hcl, hx, kk⟩)))))
    have pd : aPrs K (nearL p w cols.length ring a b) = ((nearL p w cols.length ring a b).map pairD).map (aD K) := by
      unfold aPrs
      rw [List.map_map]
      rfl
    refine ws_seq (ws_if (wt_or (wt_test (K := K) (wr_neDO (p := q) (ds := (nearL p w cols.length ring a b).map pairD) (by rw [← pd]; rfl) (close _ _ rfl rfl ⟨_, le_LP, sh_prs _, sh_prs _, _, le_rfl, fun h => ?_, fun _ => ?_⟩)))))
    · rw [eqv_prs] at h
      simp at h
    refine wt_or (wt_test (K := K) (wr_neD (wr_meth (wr_var rfl ⟨(io_O (notW (by decide))).le lB, wa_cons (wr_var rfl (wa_nil ⟨B, _, p, cols, ring, a, b, _, _, rfl, lB, by omega, le_rfl, hcl, hx, by omega, _, le_rfl, box _ _ rfl rfl ⟨_, le_rfl, sh_cell _, sh_cell _, _, le_rfl, fun h => ?_, fun _ => ?_⟩⟩))⟩))))
    · rw [eqv_cell] at h
      simp at h
    refine wt_not (wt_B (K := K) (wr_meth (wr_var rfl ⟨(io_O (notW (by decide))).le lB, wa_cons (wr_var rfl (wa_nil ⟨B, _, p, cols, ring, _, rfl, lB, by omega, le_DS, true, by rw [seat_ok ok ha hb]; exact le_rfl, fun z => (nomatch z), fun _ => ws_next ?_⟩))⟩)))
    refine ws_seq (ws_append (p := q) (As := aPrs K (nearL p w cols.length ring a b)) rfl ?_ (wr_non (K := K) ?_))
    · rw [List.length_map]
      have := (nb_perm (p := p) (n := cols.length) (ring := ring) (a := (a : Int)) (b := (b : Int)) ok hf (by omega) (by omega)).length_eq
      have := nb_len (n := cols.length) (ring := ring) (a := (a : Int)) (b := (b : Int)) ok
      omega
    refine ws_if (wt_or (wt_test (K := K) (wr_neD (wr_L (fr_methK (wr_var rfl ⟨iso.le lB, wa_cons (wr_var rfl (wa_nil ⟨rfl, B, _, p, cols, ring, w, a, b, rfl, lB, ok, hf, hl, le_rfl, ha, hb, _, fun _ _ z => z, _, le_LP, close _ _ rfl rfl ⟨_, le_LP, sh_prs _, sh_prs _, _, le_rfl, fun h => ?_, fun _ => ?_⟩⟩))⟩))))))
    · rw [eqv_prs] at h
      simp at h
    refine wt_test (K := K) (wr_neD (wr_methK (wr_var rfl ⟨(io_O (notW (by decide))).le lB, wa_cons (wr_var rfl (wa_nil ⟨rfl, B, _, p, cols, ring, a, b, _, _, rfl, lB, by omega, le_rfl, hcl, hx, by omega, _, le_rfl, box _ _ rfl rfl ⟨_, le_rfl, sh_cell _, sh_cell _, _, le_rfl, fun h => ?_, fun _ => ws_next ⟨_, _, rfl⟩⟩⟩))⟩)))
    rw [eqv_cell] at h
    simp at h
  · subst e
    refine ws_ret (wr_eqD (wr_L (seats _ _ _ rfl ⟨_, fun _ _ z => z, _, le_LP, spots _ _ _ rfl ⟨_, le_LP, sh_prs _, sh_prs _, ?_⟩⟩)))
    rw [eqv_prs]
    simpa using k
end
end G.J

set_option maxHeartbeats 400000
/-! Rules for the law: tapes made, repeats, bools, texts of lists, lists of seats among any values. -/
namespace G.J
open PySem PySem.Spec PyProof.Rows L2 Tp G
section
variable {K : PySem.W.Frag} {Cs : Cl} {Γ : List SK} {te ta tb : TE} {tr : TA} {Φ : AV → Prop} {Ψ : OC → Prop} {C : Addr}
def aScr (K : PySem.W.Frag) (ns : List Int) : AV := ⟨fun v H => ∃ a, v = .ref a ∧ Scr K H a ns, fun _ _ _ e ⟨a, h1, h2⟩ => ⟨a, h1, e.sql h2.1, h2.2⟩⟩
theorem hl_scr {ns : List Int} : HasLen K (aScr K ns) ns.length := fun v H ⟨a, h1, h2⟩ => ⟨a, _, h1, .inl h2.1, by simp⟩
theorem wr_tape (h : WR Γ ta fun A => ∃ ns, Le A (aScr K ns) ∧ WR Γ tb fun B => ∃ j : Nat, Le B (aI K (j : Int)) ∧ j ≤ 5 ∧ Φ aTape) : WR Γ (tCall (spTape K) [] E0 (tCons ta (tCons tb tNil))) Φ := fun O0 H0 σ H e Q q =>
  h O0 H0 σ H e _ fun A ⟨ns, l, hb⟩ v H1 g p => hb O0 H0 σ H1 (e.grow g) _ fun B ⟨j, lb, hj, k⟩ w H2 g2 p2 => by
    obtain ⟨a, rfl, hs⟩ := l _ _ (av_up p)
    refine ⟨a, ns, j, by rw [dp_int (lb _ _ p2)]; rfl, ⟨g2.sql hs.1, hs.2⟩, hj, fun t d m ht hr => ?_⟩
    obtain ⟨n1, n2⟩ := new_cut (o := .dK (tapeKv d m)) ((e.grow g).grow g2) ht
    exact q _ k _ _ ((g.trans g2).trans (Gr.new ht)) ⟨t, rfl, d, m, n1, hr⟩
theorem allV_rep {H : Hp} {As : List AV} {xs : List V} (h : AllV As xs H) : ∀ n : Nat, AllV (List.replicate n As).flatten (List.replicate n xs).flatten H
  | 0 => AllP.nil
  | n + 1 => by
    rw [List.replicate_succ, List.replicate_succ, List.flatten_cons, List.flatten_cons]
    exact allV_app h (allV_rep h n)
theorem fr_rep (h : WR Γ ta fun A => ∃ As, Le A (aL As) ∧ WR Γ tb fun B => ∃ n : Nat, Le B (aI K (n : Int)) ∧ n ≤ 1000 ∧ As.length ≤ 1000 ∧ Ψ (oL (List.replicate n As).flatten)) : FR Γ (tOp rRep ta tb) Ψ := fun O0 H0 σ H e Q q =>
  h O0 H0 σ H e _ fun A ⟨As, la, hb⟩ v H1 g p => hb O0 H0 σ H1 (e.grow g) _ fun B ⟨n, lb, hn, hl, k⟩ w H2 g2 p2 => by
    obtain ⟨a, xs, rfl, ha, hx⟩ := la _ _ p
    have ha := g2.lst (dels_some ha).2
    have hlen := allV_len hx
    refine ⟨a, (n : Int), xs, rfl, dp_int (lb _ _ p2), ha, by omega, by omega, ?_, fun z hz => ?_⟩
    · rw [Int.toNat_natCast, hlen]
      exact Nat.le_trans (Nat.mul_le_mul hl hn) (by decide)
    · rw [Int.toNat_natCast]
      exact q _ k z _ H2 (g.trans g2) hz ⟨_, rfl, allV_rep (allV_grow (gr_delsM g2) hx) n⟩
theorem wr_neB (h : WR Γ ta fun A => ∃ i, Le A (aB K i) ∧ WR Γ tb fun B => ∃ j, Le B (aB K j) ∧ Φ (aB K (!decide (i = j)))) : WR Γ (tOp rNe ta tb) Φ := fun O0 H0 σ H e Q q =>
  h O0 H0 σ H e _ fun A ⟨i, la, hb⟩ v H1 g1 p => hb O0 H0 σ H1 (e.grow g1) _ fun B ⟨j, lb, k⟩ w H2 g2 p2 => by
    rw [dp_bl (la _ _ p), dp_bl (lb _ _ p2)]
    refine ⟨rfl, q _ k _ H2 (g1.trans g2) ?_⟩
    have e : decide (V.bl i = V.bl j) = decide (i = j) := by
      rw [decide_eq_decide]
      exact ⟨fun h => V.bl.inj h, fun h => by rw [h]⟩
    rw [e]
    exact .bl _
/-- made with a value that is not handed in -/
theorem wr_makeD {pre : List AV → (List (Str × AV) → Prop) → Prop} {d : V} {D : AV} (hd : ∀ H, D.P d H) (h : WA Γ tr fun As => pre (As ++ [D]) fun fs => Φ (aO C fs)) : WR Γ (tMake C (spI C pre) [d] E0 tr) Φ := fun O0 H0 σ H e Q q =>
  h O0 H0 σ H e _ fun As hp vs H1 g ps => fun x dx nx ndx ne => wr_make_core (e.grow g) hp (allV_app ps (.cons (hd _) .nil)) nx ndx ne fun fs k H' g' p => q _ k _ H' (g.trans g') p
def gRv : List V → List V → List V := fun vs zs => vs ++ zs.reverse
theorem hg_rv {A B : AV} : ∀ (x : Addr) xs ys H, AllV [] xs H → AllV [A, B] ys H → ∃ zs, gRv (V.ref x :: xs) ys = V.ref x :: zs ∧ AllV [B, A] zs H := fun x xs ys H h1 h2 => by
  cases h1
  cases h2 with
  | cons a h2 =>
    cases h2 with
    | cons b h2 =>
      cases h2
      exact ⟨_, rfl, .cons b (.cons a .nil)⟩
/-! ### == of drawn webs -/
theorem eqv_plan (p q : Plan) : PyData.eqv (planD p) (planD q) = sameP p q := by
  unfold planD sameP
  rw [eqv_tt, PyData.eqvAll, PyData.eqvAll, PyData.eqvAll, PyData.eqvAll, eqv_int, eqv_tt, eqv_tt, eqvAll_map eqv_pairD, eqvAll_map eqv_pairD]
  simp
theorem eqv_net (p q : Plan) (a b : List (List Cell)) (r s : Bool) : PyData.eqv (netD p a r) (netD q b s) = (sameS p q a b && decide (r = s)) := by
  unfold netD sameS
  rw [eqv_ll, PyData.eqvAll, PyData.eqvAll, PyData.eqvAll, PyData.eqvAll, eqv_plan, eqv_ll, eqvAll_map eqv_col, eqv_bool]
  simp [Bool.and_assoc]
theorem sameS_self (p : Plan) (a : List (List Cell)) : sameS p p a a = true := by
  unfold sameS sameP
  simp
theorem noLs_map {X : Type} {f : X → PyData} (h : ∀ x, noL (f x) = true) (l : List X) : noL.noLs (l.map f) = true := noLs_all.mpr fun d hd => by
  obtain ⟨x, _, rfl⟩ := List.mem_map.mp hd
  exact h x
end
/-! ### texts of lists -/
def sB (d : PyData) : Bool := d.showable && decide (d.shown.length ≤ 1000) && decide (d.depth ≤ 40) && PyData.strOk d.shown
theorem sB_ok {d : PyData} (h : sB d = true) : d.showable = true ∧ d.shown.length ≤ 1000 ∧ d.depth ≤ 40 ∧ PyData.strOk d.shown = true := by
  unfold sB at h
  simp only [Bool.and_eq_true, decide_eq_true_eq] at h
  exact ⟨h.1.1.1, h.1.1.2, h.1.2, h.2⟩
theorem sB_okD {d : PyData} (h : sB d = true) : okD d := by
  obtain ⟨a, b, c, e⟩ := sB_ok h
  exact ⟨a, Nat.le_trans b (by decide), Nat.le_trans c (by decide), e⟩
/-- what a whole list, a whole tuple may be written as -/
def wB (d : PyData) : Prop := d.showable = true ∧ d.shown.length ≤ sizeLine ∧ d.depth ≤ 60
theorem sB_w {d : PyData} (h : sB d = true) : wB d := by
  obtain ⟨a, b, c, e⟩ := sB_ok h
  exact ⟨a, Nat.le_trans b (by decide), Nat.le_trans c (by decide)⟩
theorem showAll : ∀ {ds : List PyData}, (∀ d ∈ ds, sB d = true) → PyData.showableAll ds = true ∧ PyData.depthAll ds ≤ 40 ∧ ((PyData.shownAll ds).map (·.length)).sum ≤ 1000 * ds.length ∧ (PyData.shownAll ds).length = ds.length
  | [], _ => ⟨rfl, by simp [PyData.depthAll], by simp [PyData.shownAll], rfl⟩
  | d :: ds, h => by
    obtain ⟨a, b, c, _⟩ := sB_ok (h d List.mem_cons_self)
    obtain ⟨r1, r2, r3, r4⟩ := showAll fun x hx => h x (List.mem_cons_of_mem _ hx)
    refine ⟨?_, ?_, ?_, ?_⟩
    · simp [PyData.showableAll, a, r1]
    · simp [PyData.depthAll]
      omega
    · simp [PyData.shownAll]
      omega
    · simp [PyData.shownAll, r4]
theorem wB_list {ds : List PyData} (h : ∀ d ∈ ds, sB d = true) (hl : ds.length ≤ 100) : wB (.list ds) := by
  obtain ⟨r1, r2, r3, r4⟩ := showAll h
  refine ⟨by simpa [PyData.showable] using r1, ?_, by simp [PyData.depth]; omega⟩
  have := listText_len_le (PyData.shownAll ds)
  show (listText (PyData.shownAll ds)).length ≤ sizeLine
  have : sizeLine = 16777216 := by decide
  omega
theorem wB_tup {ds : List PyData} (h : ∀ d ∈ ds, sB d = true) (hl : ds.length ≤ 100) : wB (.tuple ds) := by
  obtain ⟨r1, r2, r3, r4⟩ := showAll h
  refine ⟨by simpa [PyData.showable] using r1, ?_, by simp [PyData.depth]; omega⟩
  have := tupleText_len_le (PyData.shownAll ds)
  show (tupleText (PyData.shownAll ds)).length ≤ sizeLine
  have : sizeLine = 16777216 := by decide
  omega
theorem sB_pairs : ∀ a < 64, ∀ b < 4, sB (pairD ((a : Nat), (b : Nat))) = true := by decide +kernel
theorem sB_pair {n w : Nat} {s : Pr} (hn : n ≤ 63) (hw : w ≤ 3) (h : s ∈ gridP n w) : sB (pairD s) = true := by
  have := mem_grid.mp h
  obtain ⟨x, y⟩ := s
  obtain ⟨a, rfl⟩ : ∃ a : Nat, x = (a : Int) := ⟨x.toNat, by simp at this; omega⟩
  obtain ⟨b, rfl⟩ : ∃ b : Nat, y = (b : Int) := ⟨y.toNat, by simp at this; omega⟩
  simp at this
  exact sB_pairs a (by omega) b (by omega)
/-! ### what is right of any value -/
/-- what stands in the lists among any values -/
def dIn : List PyData := [.int 0, .tuple [.int 0, .int 0], .tuple [.tuple [.int 1, .bool true]], .none]
def itB (n w : Nat) (d : PyData) : Bool := sB d && (seatB n (w : Int) d == decide (d.shown ∈ knownS n w))
theorem it_odd : ∀ n < 10, ∀ w < 4, ((oddD (n : Nat) (w : Nat) ++ dAny).all (itB n w) && dIn.all (itB n w)) = true := by decide +kernel
theorem known_nd : ∀ n < 10, ∀ w < 4, (knownS n w).Nodup := by decide +kernel
def inB (n w : Nat) (d : PyData) : Bool := match d with
  | .list ds => decide (ds.length ≤ 1) && ds.all (itB n w)
  | _ => true
theorem in_any : ∀ n < 10, ∀ w < 4, (dAny.all (inB n w)) = true := by decide +kernel
theorem it_of_odd {n w : Nat} (hn : n < 10) (hw : w < 4) {d : PyData} (h : d ∈ oddD (n : Int) (w : Int) ++ dAny) : itB n w d = true := by
  have := it_odd n hn w hw
  rw [Bool.and_eq_true] at this
  exact List.all_eq_true.mp this.1 d h
theorem in_of_any {n w : Nat} (hn : n < 10) (hw : w < 4) {ds : List PyData} (h : PyData.list ds ∈ dAny) : ds.length ≤ 1 ∧ ∀ d ∈ ds, itB n w d = true := by
  have := List.all_eq_true.mp (in_any n hn w hw) _ h
  unfold inB at this
  simp only [Bool.and_eq_true, decide_eq_true_eq] at this
  exact ⟨this.1, fun d hd => List.all_eq_true.mp this.2 d hd⟩
theorem it_pair {n w : Nat} {s : Pr} (hn : n < 10) (hw : w < 4) (h : s ∈ gridP n w) : itB n w (pairD s) = true := by
  unfold itB
  rw [Bool.and_eq_true]
  refine ⟨sB_pair (by omega) (by omega) h, ?_⟩
  have h1 : seatB n (w : Int) (pairD s) = true := by
    rw [seatB_pr]
    exact decide_eq_true (mem_grid.mp h)
  have h2 : (pairD s).shown ∈ knownS n w := List.mem_map.mpr ⟨s, h, rfl⟩
  rw [h1, decide_eq_true h2]
  rfl
theorem it_sB {n w : Nat} {d : PyData} (h : itB n w d = true) : sB d = true := by
  unfold itB at h
  rw [Bool.and_eq_true] at h
  exact h.1
theorem it_seat {n w : Nat} {d : PyData} (h : itB n w d = true) : seatB n (w : Int) d = decide (d.shown ∈ knownS n w) := by
  unfold itB at h
  rw [Bool.and_eq_true] at h
  exact eq_of_beq h.2
theorem inj_of_nd {X Y : Type} {f : X → Y} : ∀ {l : List X}, (l.map f).Nodup → ∀ {x y : X}, x ∈ l → y ∈ l → f x = f y → x = y
  | a :: l, h, x, y, hx, hy, e => by
    have h : (f a :: l.map f).Nodup := h
    rw [List.nodup_cons] at h
    rcases List.mem_cons.mp hx with ex | hx'
    · rcases List.mem_cons.mp hy with ey | hy'
      · rw [ex, ey]
      · exact absurd (List.mem_map.mpr ⟨y, hy', by rw [← e, ex]⟩) h.1
    · rcases List.mem_cons.mp hy with ey | hy'
      · exact absurd (List.mem_map.mpr ⟨x, hx', by rw [e, ey]⟩) h.1
      · exact inj_of_nd h.2 hx' hy' e
theorem are_eq {n w : Nat} (hn : n < 10) (hw : w < 4) {ds : List PyData} (h : ∀ d ∈ ds, itB n w d = true) : areB n (w : Int) (.list ds) = areSB n w ds := by
  show (ds.all (seatB n (w : Int)) && decide (ds.map toPr).Nodup) = _
  unfold areSB
  by_cases ha : ds.all (seatB n (w : Int)) = true
  · have hk : ∀ d ∈ ds, d.shown ∈ knownS n w := fun d hd => by
      have := List.all_eq_true.mp ha d hd
      rw [it_seat (h d hd)] at this
      exact of_decide_eq_true this
    rw [ha, Bool.true_and, decide_eq_decide]
    have eds := seats_of ha
    have hg : ∀ s ∈ ds.map toPr, s ∈ gridP n w := fun s hs => by
      have : pairD s ∈ ds := by
        rw [eds]
        exact List.mem_map.mpr ⟨s, hs, rfl⟩
      have := List.all_eq_true.mp ha _ this
      rw [seatB_pr] at this
      exact mem_grid.mpr (of_decide_eq_true this)
    have em : ds.map PyData.shown = (ds.map toPr).map fun s => (pairD s).shown := by
      conv => lhs; rw [eds]
      rw [List.map_map]
      rfl
    rw [em]
    constructor
    · intro z
      refine ⟨hk, List.pairwise_map.mpr (List.Pairwise.imp_of_mem (fun {a b} ma mb ne e => ne ?_) z)⟩
      exact inj_of_nd (known_nd n hn w hw) (hg _ ma) (hg _ mb) e
    · rintro ⟨_, z⟩
      exact (List.pairwise_map.mp z).imp fun ne e => ne (by rw [e])
  · have ha : ds.all (seatB n (w : Int)) = false := by simpa using ha
    rw [ha, Bool.false_and]
    symm
    refine decide_eq_false fun z => ?_
    have : ds.all (seatB n (w : Int)) = true := List.all_eq_true.mpr fun d hd => by
      rw [it_seat (h d hd)]
      exact decide_eq_true (z.1 d hd)
    rw [this] at ha
    cases ha
section
variable {K : PySem.W.Frag} {Cs : Cl}
/-- a list, its items any values; or no list -/
def pAreV (K : PySem.W.Frag) (Cs : Cl) : SpP := fun As Φ => ∃ A B p cols ring, As = [A, B] ∧ Le A (aW K Cs p cols ring) ∧ cols.length ≤ 1000 ∧
  ((∃ ds, Le B (aQ K (ds.map (aS K))) ∧ HasTy K B (.type "list") ∧ ds.length < 64 ∧ Φ (aB K (areB cols.length p.w (.list ds)))) ∨ ∃ t, HasTy K B t ∧ PySem.W.kitOne K t (.type "list") = some false ∧ Φ (aB K false))
theorem le_prsS {l : List Pr} : Le (aQ K ((l.map pairD).map (aS K))) (aD K (.list (l.map pairD))) := by
  refine (le_Q ?_).trans le_QD
  rw [List.map_map, List.map_map]
  exact leAll_map fun s _ => le_ST (ds := [.int s.1, .int s.2])
theorem pure_areV (KT : KitTy K) : ∀ vs H Q E, spW (pAreV K Cs) vs H Q E → t_areSeats K Cs (pSeat K Cs) { nx := fun _ H' => Q .non H', rt := Q } (L2.start N_areSeats vs) H := fn_W (K := K) fun As Φ ⟨A, B, p, cols, ring, hA, lA, hl, k⟩ => by
  subst hA
  refine ⟨1, rfl, ?_⟩
  unfold t_areSeats
  have kl : PySem.W.kitOne K (.type "list") (.type "list") = some true := KT (.list []) "list" (by simp)
  rcases k with ⟨ds, lB, tB, hd, k⟩ | ⟨t, tB, kt, k⟩
  rotate_left
  · exact ws_seq (ws_if (wt_not (wt_B (K := K) (wr_isi (.ty "list") (wr_var (A := B) rfl ⟨t, false, tB, kt, false, le_rfl, fun _ => ws_ret (wr_bl (K := K) k), fun z => (nomatch z)⟩)))))
  refine ws_seq (ws_if (wt_not (wt_B (K := K) (wr_isi (.ty "list") (wr_var (A := B) rfl ⟨_, true, tB, kl, true, le_rfl, fun z => (nomatch z), fun _ => ws_next ?_⟩)))))
  refine ws_ret (wr_andV (K := K) (wr_all (wr_L (fr_map (X := PyData) (S := [2]) (by simp) rfl (wi_list (wr_var (A := B) rfl ⟨_, lB, ds, aS K, fun d => aB K (seatB cols.length p.w d), rfl, by omega, fun x hx => ?_, ?_⟩))))))
  · refine wg_name ⟨rfl, wr_meth (wr_var (A := A) rfl ⟨(io_O (by show ("is_seat" : Str) ∉ [("stretch" : Str), ("closed" : Str)]; decide)).le lA, wa_cons (wr_var (A := aS K x) rfl (wa_nil ⟨A, _, p, cols, ring, x, rfl, lA, hl, le_rfl, le_rfl⟩))⟩)⟩
  · refine ⟨_, fun _ _ z => z, ds.map (seatB cols.length p.w), ?_, _, le_rfl, fun h => ?_, fun h => ?_⟩
    · rw [List.map_map]
      exact le_LQ
    · have ha : ds.all (seatB cols.length p.w) = true := by
        rw [List.all_map] at h
        exact h
      have eds := seats_of ha
      have : areB cols.length p.w (.list ds) = decide (ds.map toPr).Nodup := by
        show (_ && _) = _
        rw [ha]
        rfl
      rw [this] at k
      refine wr_lenSetEq (A := B) rfl (l := ds.map toPr) ?_ (by rw [List.length_map]; exact hd) k
      rw [eds] at lB
      exact lB.trans le_prsS
    · have ha : ds.all (seatB cols.length p.w) = false := by
        rw [List.all_map] at h
        exact h
      have : areB cols.length p.w (.list ds) = false := by
        show (_ && _) = _
        rw [ha]
        rfl
      rw [this] at k
      exact k
end
end G.J

set_option maxHeartbeats 400000
/-! Things that may be lists of seats. -/
namespace G.J
open PySem PySem.Spec PyProof.Rows L2 Tp G
section
variable {K : PySem.W.Frag} {Cs : Cl} {Γ : List SK} {te ta tb : TE} {tr : TA} {t u : TT} {s : TS} {E : EA} {Φ : AV → Prop} {Ψ : OC → Prop} {C : Addr}
/-! ### conditions that fail, that hold -/
theorem wf_or (h : WT Γ t fun a => a = false) (k : WT Γ u fun a => a = false) : WT Γ (tOr t u) fun a => a = false := wt_or (wt_mono h fun a ha => ⟨fun z => (by rw [ha] at z; cases z), fun _ => k⟩)
theorem wf_not (h : WT Γ t fun a => a = true) : WT Γ (tNot t) fun a => a = false := wt_not (wt_mono h fun a ha => by rw [ha]; rfl)
theorem ws_ifF {s' : TS} (h : WT Γ t fun a => a = false) (k : WS Γ s E) : WS Γ (tIfS t s' s) E := ws_if (wt_mono h fun a ha => ⟨fun z => (by rw [ha] at z; cases z), fun _ => k⟩)
/-- slots forgotten -/
theorem ws_forget (Γ' : List SK) (hl : Γ'.length = Γ.length) (ho : owns Γ' = []) (hs : ∀ (i : Nat) (k : SK), Γ'[i]? = some k → k = .any ∨ Γ[i]? = some k) (h : WS Γ' s E) : WS Γ s E := fun O0 H0 σ H e D f =>
  h O0 H0 σ H (e.less (by rw [ho]; exact List.nil_sublist _) (by rw [hl]; exact e.len) fun i k hk => by
    rcases hs i k hk with rfl | hk'
    · have hi : i < σ.length := by
        rw [e.len, ← hl]
        exact (List.getElem?_eq_some_iff.mp hk).1
      exact ⟨σ[i], List.getElem?_eq_getElem hi, trivial⟩
    · exact e.sl i k hk') D f
theorem ht_L {As : List AV} : HasTy K (aL As) (.type "list") := fun v H ⟨p, xs, h1, h2, h3⟩ => by
  subst h1
  exact .base (.lst h2)
theorem ht_T {As : List AV} : HasTy K (aT K As) (.type "tuple") := fun v H ⟨p, xs, h1, h2, h3⟩ => by
  subst h1
  rcases h2 with (h2 | ⟨o, h2⟩) | ⟨o, _, _, e, c, _⟩
  · exact .base (.tup h2)
  · exact .fTuple h2
  · exact .kTuple e c
/-- a thing that the law asks for -/
def Th (K : PySem.W.Frag) (n w : Nat) (C : AV) : Prop := ∃ D, Sho K C D ∧ wB D ∧
  ((∃ ds : List PyData, Le C (aQ K (ds.map (aS K))) ∧ HasTy K C (.type "list") ∧ ds.length ≤ 20 ∧ ∀ d ∈ ds, itB n w d = true) ∨ ∃ t, HasTy K C t ∧ PySem.W.kitOne K t (.type "list") = some false)
theorem th_list {n w : Nat} {ds : List PyData} (h : ∀ d ∈ ds, itB n w d = true) (hl : ds.length ≤ 20) : Th K n w (aL (ds.map (aS K))) :=
  ⟨_, sho_Q le_LQ, wB_list (fun d hd => it_sB (h d hd)) (by omega), .inl ⟨ds, le_LQ, ht_L, hl, h⟩⟩
theorem kit_nl (KT : KitTy K) {d : PyData} (h : isListD d = false) : PySem.W.kitOne K (.type (tyD d)) (.type "list") = some false := by
  rw [KT d "list" (by simp), sub_list, h]
theorem th_tup (KT : KitTy K) {n w : Nat} {ds : List PyData} (h : ∀ d ∈ ds, itB n w d = true) (hl : ds.length ≤ 20) : Th K n w (aT K (ds.map (aS K))) :=
  ⟨_, sho_T le_rfl, wB_tup (fun d hd => it_sB (h d hd)) (by omega), .inr ⟨_, ht_T, kit_nl KT (d := .tuple []) rfl⟩⟩
theorem th_any (KT : KitTy K) {n w : Nat} (hn : n < 10) (hw : w < 4) {d : PyData} (h : d ∈ dAny) : Th K n w (aS K d) := by
  have hs := it_sB (it_of_odd hn hw (List.mem_append_right _ h))
  refine ⟨d, sho_S le_rfl, sB_w hs, ?_⟩
  by_cases hl : isListD d = true
  · obtain ⟨ds, rfl⟩ : ∃ ds, d = .list ds := by cases d <;> first | exact ⟨_, rfl⟩ | cases hl
    obtain ⟨h1, h2⟩ := in_of_any hn hw h
    refine .inl ⟨ds, ?_, ht_S (d := .list ds) le_rfl, by omega, h2⟩
    exact le_SL.trans (le_DQ.trans (le_Q (leAll_map fun d _ => le_DS)))
  · exact .inr ⟨_, ht_S (d := d) le_rfl, kit_nl KT (by simpa using hl)⟩
/-! ### texts of answers -/
theorem wB_bool (b : Bool) : wB (.bool b) := sB_w (by cases b <;> decide +kernel)
theorem wB_two (b : Bool) : wB (.list [.bool b, .bool b]) := wB_list (fun d hd => by
  simp only [List.mem_cons, List.not_mem_nil, or_false] at hd
  rcases hd with rfl | rfl <;> cases b <;> decide +kernel) (by simp)
theorem sho_two {b : Bool} : Sho K (aL [aB K b, aB K b]) (.list [.bool b, .bool b]) := sho_Q ((le_L (.cons le_DS (.cons le_DS .nil))).trans (le_LQ (As := [aS K (.bool b), aS K (.bool b)])))
/-- repr([a, b]) != repr([c] * 2), the three alike -/
theorem wf_two {b : Bool} (h1 : WR Γ ta fun A => Le A (aB K b)) (h2 : WR Γ tb fun A => Le A (aB K b)) (h3 : WR Γ te fun A => Le A (aB K b)) :
    WT Γ (tTest (tOp rNe (tCB (rRepr2 K) (tCons (tLst (tCons ta (tCons tb tNil))) tNil)) (tCB (rRepr2 K) (tCons (tOp rRep (tLst (tCons te tNil)) (tC (.int 2))) tNil)))) fun a => a = false := by
  obtain ⟨r1, r2, r3⟩ := wB_two b
  refine wt_test (K := K) (wr_neS (wr_repr (wr_lst (wa_cons (wr_mono h1 fun A lA => wa_cons (wr_mono h2 fun B lB => wa_nil ⟨by simp, .list [.bool b, .bool b], fun v H p => sho_two v H (le_L (.cons lA (.cons lB .nil)) v H p), r1, r2, r3, _, le_rfl, ?_⟩))))))
  refine wr_repr (wr_L (fr_rep (wr_lst (wa_cons (wr_mono h3 fun A lA => wa_nil ⟨by simp, _, le_rfl, wr_int (K := K) ⟨2, le_rfl, by decide, by simp, _, fun _ _ z => z, .list [.bool b, .bool b], fun v H p => sho_two v H (le_L (.cons lA (.cons lA .nil)) v H p), r1, r2, r3, _, le_rfl, _, le_rfl, by simp⟩⟩)))))
theorem hl_net {cols : List (List Cell)} : HasLen K (aD K (.list (dCols cols))) cols.length := by
  have z := hl_Q (le_DQ (K := K) (ds := dCols cols))
  rw [dcols_len] at z
  exact z
theorem depthAll_le {n : Nat} : ∀ {ds : List PyData}, (∀ d ∈ ds, d.depth ≤ n) → PyData.depthAll ds ≤ n
  | [], _ => by simp [PyData.depthAll]
  | d :: ds, h => by
    have a := h d List.mem_cons_self
    have b := depthAll_le fun x hx => h x (List.mem_cons_of_mem _ hx)
    simp [PyData.depthAll]
    omega
theorem item_pair (s : Pr) : item (pairD s) = true := items_pairs [s] _ List.mem_cons_self
theorem depth_pair (s : Pr) : (pairD s).depth ≤ 5 := by simp [pairD, PyData.depth, PyData.depthAll]
theorem item_prs (l : List Pr) : item (.tuple (l.map pairD)) = true := item_tup fun d hd => by
  obtain ⟨s, _, rfl⟩ := List.mem_map.mp hd
  exact ⟨item_pair s, Nat.le_trans (depth_pair s) (by decide)⟩
theorem depth_prs (l : List Pr) : (PyData.tuple (l.map pairD)).depth ≤ 6 := depth_tup fun d hd => by
  obtain ⟨s, _, rfl⟩ := List.mem_map.mp hd
  exact depth_pair s
theorem item_plan (p : Plan) : item (planD p) = true ∧ (planD p).depth ≤ 7 := by
  have h : ∀ d ∈ [PyData.int p.w, .tuple (p.inn.map pairD), .tuple (p.out.map pairD)], item d = true ∧ d.depth ≤ 6 := fun d hd => by
    simp only [List.mem_cons, List.not_mem_nil, or_false] at hd
    rcases hd with rfl | rfl | rfl
    · exact ⟨by simp [item, noL, PyData.canLay0, PyData.depth], by simp [PyData.depth]⟩
    · exact ⟨item_prs _, depth_prs _⟩
    · exact ⟨item_prs _, depth_prs _⟩
  exact ⟨item_tup fun d hd => ⟨(h d hd).1, Nat.le_trans (h d hd).2 (by decide)⟩, depth_tup fun d hd => (h d hd).2⟩
theorem sh_net (p : Plan) (cols : List (List Cell)) (ring : Bool) : SeqAt.shaped (netD p cols ring) = true := by
  have q1 := item_lay (ds := [planD p, .bool ring]) fun d hd => by
    simp only [List.mem_cons, List.not_mem_nil, or_false] at hd
    rcases hd with rfl | rfl
    · exact (item_plan p).1
    · simp [item, noL, PyData.canLay0, PyData.depth]
  have q2 := item_lay (items_cols cols)
  have q3 : PyData.depthAll (dCols cols) ≤ 6 := depthAll_le fun d hd => by
    obtain ⟨c, _, rfl⟩ := List.mem_map.mp hd
    exact depth_col c
  have q4 := (item_plan p).2
  unfold SeqAt.shaped netD
  simp [PyData.canLayAll0] at q1
  simp [PyData.canLay0, PyData.canLayAll0, PyData.depth, PyData.depthAll, q1, q2.1]
  omega
end
end G.J

set_option maxHeartbeats 1000000
/-! The law of webs told. -/
namespace G.J
open PySem PySem.Spec PyProof.Rows L2 Tp G
section
variable {K : PySem.W.Frag} {Cs : Cl}
theorem ws_tail {Δ ss : List SK} {n : Nat} {s : TS} {E : EA} (hn : ss.length = n) (ho : owns Δ = []) (h : WS (Δ ++ List.replicate n .any) s E) : WS (Δ ++ ss) s E :=
  ws_forget (Δ ++ List.replicate n .any) (by simp [hn]) (by
    have : owns (Δ ++ List.replicate n SK.any) = owns Δ ++ owns (List.replicate n SK.any) := by simp [owns]
    rw [this, ho, List.nil_append]
    unfold owns
    rw [List.flatMap_eq_nil_iff]
    intro k hk
    rw [List.eq_of_mem_replicate hk]
    rfl) (fun i k hk => by
    by_cases hi : i < Δ.length
    · rw [List.getElem?_append_left hi] at hk
      exact .inr (by rw [List.getElem?_append_left hi]; exact hk)
    · rw [List.getElem?_append_right (by omega)] at hk
      exact .inl (List.eq_of_mem_replicate (List.mem_of_getElem? hk))) h
theorem cons_of {X : Type} {l : List X} {n : Nat} (h : l.length = n + 1) : ∃ x l', l = x :: l' ∧ l'.length = n := by
  cases l with
  | nil => simp at h
  | cons x l => exact ⟨x, l, rfl, by simpa using h⟩
theorem rep_one {X : Type} (x : X) : ∀ r : Nat, (List.replicate r [x]).flatten = List.replicate r x
  | 0 => rfl
  | r + 1 => by rw [List.replicate_succ, List.replicate_succ, List.flatten_cons, rep_one x r]; rfl
def pLaw5 (K : PySem.W.Frag) : SpP := fun As Φ => ∃ A ns, As = [A] ∧ Le A (aScr K ns) ∧ ns.length ≤ 63 ∧ Φ (aB K true)
abbrev eS5 (K : PySem.W.Frag) (Cs : Cl) : R2 := rEqF K Cs.S (spW (pSEq K Cs))
abbrev eW5 (K : PySem.W.Frag) (Cs : Cl) : R2 := rEqF K Cs.W (spW (pWEq K Cs))
abbrev t5 (K : PySem.W.Frag) (Cs : Cl) : TS := t_law5 K Cs (pNet K) (pMB K Cs) (pMW K Cs) (pRight K Cs) (pOdd K) (pSome K) (pAreSp K) (pSpots K) (pSeat K Cs) (pAreV K Cs) (pAny K) (pWeb K Cs) (eS5 K Cs) (eW5 K Cs) gApp gRv gApp
abbrev anys (n : Nat) : List SK := List.replicate n .any
theorem pure_law5 (KT : KitTy K) (SC : StCls K Cs.S) (WC : WbCls K Cs.W) (SI : FrIs K Cs.S) (WI : FrIs K Cs.W) (nfS : PySem.W.notFirst K Cs.W (.ref Cs.S) = true) (kfS : PySem.W.kitOne K (.ref Cs.S) (.ref Cs.W) = some false) :
    ∀ vs H Q E, spW (pLaw5 K) vs H Q E → t5 K Cs { nx := fun _ H' => Q .non H', rt := Q } (L2.start N_law5 vs) H := fn_W (K := K) fun As Φ ⟨A, ns, hA, lA, hns, k⟩ => by
  subst hA
  refine ⟨14, rfl, ?_⟩
  unfold t5 t_law5
  have hlen : HasLen K A ns.length := fun v H p => hl_scr v H (lA v H p)
  refine ws_seq (ws_for (wi_rng1 (K := K) (wr_max2 (wr_int ⟨1, le_rfl, wr_min2 (wr_int ⟨3, le_rfl, wr_len (wr_var (A := A) rfl ⟨ns.length, hlen, _, le_rfl, _, le_rfl, max 1 (min 3 ns.length), ?_, by omega, fun i Γ' => ∃ ss : List SK, Γ' = .is A :: ss ∧ ss.length = 14, ⟨_, rfl, rfl⟩, fun i D Γ' hi ⟨ss, e, hss⟩ => ?_, fun Γ' ⟨ss, e, hss⟩ => ?_⟩)⟩)⟩))))
  · have : (if (if (ns.length : Int) < 3 then (ns.length : Int) else 3) > 1 then (if (ns.length : Int) < 3 then (ns.length : Int) else 3) else 1) = ((max 1 (min 3 ns.length) : Nat) : Int) := by
      split <;> split <;> omega
    rw [this]
    exact le_rfl
  rotate_left
  · subst e
    exact ws_ret (wr_bl (K := K) k)
  obtain ⟨hi, rfl⟩ := rngA_at hi
  subst e
  obtain ⟨s1, ss1, rfl, hss1⟩ := cons_of hss
  refine ⟨[1], wg_name ?_⟩
  show WS ([.is A, .is (aI K (i : Int))] ++ ss1) _ _
  refine ws_tail hss1 rfl ?_
  show WS [.is A, .is (aI K (i : Int)), .any, .any, .any, .any, .any, .any, .any, .any, .any, .any, .any, .any, .any] _ _
  refine ws_seq (ws_asg (wr_tape (K := K) (wr_var (A := A) rfl ⟨ns, lA, wr_var rfl ⟨i, le_rfl, by omega, ?_⟩⟩)))
  show WS [.is A, .is (aI K (i : Int)), .is aTape, .any, .any, .any, .any, .any, .any, .any, .any, .any, .any, .any, .any] _ _
  refine ws_for (wi_rng1 (K := K) (wr_int ⟨3, le_rfl, by omega, fun i' Γ' => ∃ (s1 : SK) (ss : List SK), Γ' = .is A :: s1 :: .is aTape :: ss ∧ ss.length = 12, ⟨_, _, rfl, rfl⟩, fun i' D Γ' hi' ⟨s1, ss, e, hss⟩ => ?_, fun Γ' ⟨s1, ss, e, hss⟩ => ⟨_, e, by simp [hss]⟩⟩))
  obtain ⟨hi', rfl⟩ := rngA_at hi'
  subst e
  obtain ⟨s3, ss2, rfl, hss2⟩ := cons_of hss
  refine ⟨[3], wg_name (ws_any 1 ?_)⟩
  show WS ([.is A, .any, .is aTape, .is (aI K (i' : Int))] ++ ss2) _ _
  refine ws_tail hss2 rfl ?_
  show WS [.is A, .any, .is aTape, .is (aI K (i' : Int)), .any, .any, .any, .any, .any, .any, .any, .any, .any, .any, .any] _ _
  refine ws_seq (ws_par (wa_cons (wr_call (wa_cons (wr_var rfl (wa_cons (wr_int (K := K) (wa_cons (wr_int (K := K) (wa_nil ⟨_, _, _, 3, 7, rfl, le_rfl, le_rfl, by decide, by decide, le_rfl, by decide, by decide, fun p cols ring ok hw okc hf hl => ?_⟩))))))))))
  refine wa_cons (wr_call (wa_cons (wr_var rfl (wa_cons (wr_int (K := K) (wa_cons (wr_int (K := K) (wa_nil ⟨_, _, _, 3, 2, rfl, le_rfl, le_rfl, by decide, by decide, le_rfl, by decide, by decide, fun q cols' ring' ok' hw' okc' hf' hl' => wa_nil ⟨_, _, rfl, rfl, ?_⟩⟩))))))))
  show WS [.is A, .any, .is aTape, .is (aI K (i' : Int)), .is (aD K (netD p cols ring)), .is (aD K (netD q cols' ring')), .any, .any, .any, .any, .any, .any, .any, .any, .any] _ _
  obtain ⟨w, pok⟩ := Plan.Ok.pok ok
  have hw3 := pok.hi
  have hwp := pok.hw
  refine ws_seq (ws_asg (wr_call (wa_cons (wr_ixL (wr_var rfl ⟨_, le_net, wr_int (K := K) ⟨0, _, le_rfl, rfl, wa_cons (wr_ixL (wr_var rfl ⟨_, le_net, wr_int (K := K) ⟨1, _, le_rfl, rfl, wa_nil ⟨_, _, p, cols, rfl, ok, le_rfl, le_rfl, okc, by omega, ?_⟩⟩⟩))⟩⟩)))))
  show WS [.is A, .any, .is aTape, .is (aI K (i' : Int)), .is (aD K (netD p cols ring)), .is (aD K (netD q cols' ring')), .is (aSt K Cs p cols), .any, .any, .any, .any, .any, .any, .any, .any] _ _
  refine ws_seq (ws_asg (wr_makeK (wa_nil (wa_cons (wr_ixL (wr_var rfl ⟨_, le_net, wr_int (K := K) ⟨2, _, le_rfl, rfl, wa_cons (wr_var rfl (wa_nil ⟨_, rfl, rfl, hg_rv, _, _, p, cols, ring, rfl, le_rfl, le_rfl, hf, by omega, ?_⟩))⟩⟩))))))
  show WS [.is A, .any, .is aTape, .is (aI K (i' : Int)), .is (aD K (netD p cols ring)), .is (aD K (netD q cols' ring')), .is (aSt K Cs p cols), .is (aW K Cs p cols ring), .any, .any, .any, .any, .any, .any, .any] _ _
  obtain ⟨b1, b2, b3⟩ := wB_bool ring
  refine ws_seq (ws_ifF (wf_or (wf_not (wt_test (K := K) ?_)) (wf_or (wt_test (K := K) ?_) (wf_not (wt_B (K := K) ?_)))) (ws_next ?_))
  · exact wr_eqO (wr_fld (wr_var rfl ⟨_, hf_wS WC, ii_O, wr_var rfl ⟨_, ht_O SI, nc, _, _, p, cols, rfl, le_rfl, .inl ⟨p, cols, le_rfl, _, le_rfl, _, le_rfl, sameS_self p cols⟩⟩⟩))
  · exact wr_neS (wr_repr (wr_fld (wr_var rfl ⟨_, hf_wC WC, .bool ring, sho_S le_DS, b1, b2, b3, _, le_rfl, wr_repr (wr_ixL (wr_var rfl ⟨_, le_net, wr_int (K := K) ⟨2, _, le_rfl, rfl, .bool ring, sho_S le_DS, b1, b2, b3, _, le_rfl, _, le_rfl, by simp⟩⟩))⟩)))
  · exact wr_call (wa_cons (wr_var rfl (wa_cons (wr_var rfl (wa_nil ⟨_, _, p, cols, ring, w, rfl, le_rfl, le_rfl, pok, okc, hf, by omega, true, le_rfl, rfl⟩)))))
  refine ws_seq (ws_ifF (wf_or (wf_not (wt_test (K := K) ?_)) (wf_or (wt_test (K := K) ?_) (wf_or (wt_test (K := K) ?_) (wt_test (K := K) ?_)))) (ws_next ?_))
  · exact wr_eqO (wr_var rfl ⟨ii_O, wr_call (wa_cons (wr_var rfl (wa_nil ⟨_, p, cols, ring, rfl, ok, le_rfl, okc, hf, by omega, _, ht_O WI, nc, _, _, p, cols, ring, rfl, le_rfl, .inl ⟨p, cols, ring, le_rfl, _, le_rfl, _, le_rfl, by simp [sameS_self]⟩⟩)))⟩)
  · exact wr_neB (K := K) (wr_eqO (wr_var rfl ⟨ii_O, wr_call (wa_cons (wr_var rfl (wa_nil ⟨_, q, cols', ring', rfl, ok', le_rfl, okc', hf', by omega, _, ht_O WI, nc, _, _, p, cols, ring, rfl, le_rfl, .inl ⟨q, cols', ring', le_rfl, _, le_rfl, _, le_rfl, wr_eqD (wr_var rfl ⟨_, le_rfl, wr_var rfl ⟨_, le_rfl, sh_net _ _ _, sh_net _ _ _, _, le_rfl, _, le_rfl, by rw [eqv_net]; simp⟩⟩)⟩⟩)))⟩))
  · exact wr_eqO (wr_var rfl ⟨ii_O, wr_var rfl ⟨_, ht_O SI, nfS, _, _, p, cols, ring, rfl, le_rfl, .inr ⟨_, ht_O SI, kfS, _, le_rfl, _, le_rfl, rfl⟩⟩⟩)
  · exact wr_eqO (wr_var rfl ⟨ii_O, wr_non (K := K) ⟨_, ht_S (d := .none) le_DS, WI.nd .none, _, _, p, cols, ring, rfl, le_rfl, .inr ⟨_, ht_S (d := .none) le_DS, WI.kd .none, _, le_rfl, _, le_rfl, rfl⟩⟩⟩)
  refine ws_seq (ws_ifF (wf_or (wt_and (wt_test (K := K) (wr_gt (K := K) (wr_len (wr_ixL (wr_var rfl ⟨_, le_net, wr_int (K := K) ⟨1, _, le_rfl, rfl, cols.length, hl_net, _, le_rfl, wr_int (K := K) ⟨_, le_rfl, _, le_rfl, fun h => ?_, fun _ => rfl⟩⟩⟩)))))) (wt_and (wt_not (wt_B (K := K) (wr_ixL (wr_var rfl ⟨_, le_net, wr_int (K := K) ⟨2, _, le_rfl, rfl, ring, le_rfl, fun h => ?_, fun _ => rfl⟩⟩)))))) (ws_next ?_))
  · have h2 : 2 < cols.length := by
      have := of_decide_eq_true h
      omega
    refine wt_test (K := K) (wr_eqO (wr_var rfl ⟨ii_O, wr_makeK (wa_cons (wr_var rfl (wa_nil (wa_cons (wr_notV (K := K) (wr_ixL (wr_var rfl ⟨_, le_net, wr_int (K := K) ⟨2, _, le_rfl, rfl, ring, le_rfl, wa_nil ⟨_, rfl, rfl, hg_app, _, _, p, cols, !ring, rfl, le_rfl, le_rfl, ?_, by omega, _, ht_O WI, nc, _, _, p, cols, ring, rfl, le_rfl, .inl ⟨p, cols, !ring, le_rfl, _, le_rfl, _, le_rfl, ?_⟩⟩⟩⟩)))))))⟩))
    · unfold few
      split <;> omega
    · cases ring <;> simp
  · have hr : ring = false := by simpa using h
    subst hr
    refine wf_not (wt_test (K := K) (wr_eqO (wr_makeD (D := aB K false) (fun _ => .bl _) (wa_cons (wr_var rfl (wa_nil ⟨_, _, p, cols, false, rfl, le_rfl, le_rfl, ?_, by omega, ii_O, wr_var rfl ⟨_, ht_O WI, nc, _, _, p, cols, false, rfl, le_rfl, .inl ⟨p, cols, false, le_rfl, _, le_rfl, _, le_rfl, ?_⟩⟩⟩))))))
    · exact hf
    · simp [sameS_self]
  refine ws_seq (ws_asg (wr_L (fr_map (X := Pr) (S := [14]) (by simp) rfl (wi_list (K := K) (wr_call (wa_cons (wr_var rfl (wa_nil ⟨_, p, cols, ring, w, rfl, le_rfl, hwp, hw3, by omega, _, le_LQ, gridP cols.length w, _, fun s => aD K (.str (pairD s).shown), rfl, ?_, fun s hs => ?_, _, fun _ _ z => z, ?_⟩))))))))
  · rw [gridP_len]
    have := Nat.mul_le_mul (show cols.length ≤ 9 by omega) hw3
    omega
  · obtain ⟨o1, o2, o3, _⟩ := okD_pair (show cols.length ≤ 63 by omega) hw3 hs
    exact wg_name ⟨rfl, wr_repr (wr_var rfl ⟨_, sho_S le_DS, o1, o2, o3, le_rfl⟩)⟩
  have e1 : ((gridP cols.length w).map fun s => aD K (.str (pairD s).shown)) = aSs K (knownS cols.length w) := by
    unfold knownS aSs
    rw [List.map_map]
    rfl
  rw [e1]
  show WS [.is A, .any, .is aTape, .is (aI K (i' : Int)), .is (aD K (netD p cols ring)), .is (aD K (netD q cols' ring')), .is (aSt K Cs p cols), .is (aW K Cs p cols ring), .is (aL (aSs K (knownS cols.length w))), .any, .any, .any, .any, .any, .any] _ _
  refine ws_for (wi_rng1 (K := K) (wr_int ⟨6, le_rfl, by omega, fun j Γ' => ∃ (ss : List SK), Γ' = [.is A, .any, .is aTape, .is (aI K (i' : Int)), .is (aD K (netD p cols ring)), .is (aD K (netD q cols' ring')), .is (aSt K Cs p cols), .is (aW K Cs p cols ring), .is (aL (aSs K (knownS cols.length w)))] ++ ss ∧ ss.length = 6, ⟨_, rfl, rfl⟩, fun j D Γ' hj ⟨ss, e, hss⟩ => ?_, fun Γ' ⟨ss, e, hss⟩ => ⟨_, _, e, by simp [hss]⟩⟩))
  obtain ⟨hj, rfl⟩ := rngA_at hj
  subst e
  obtain ⟨s9, ss3, rfl, hss3⟩ := cons_of hss
  refine ⟨[9], wg_name ?_⟩
  show WS ([.is A, .any, .is aTape, .is (aI K (i' : Int)), .is (aD K (netD p cols ring)), .is (aD K (netD q cols' ring')), .is (aSt K Cs p cols), .is (aW K Cs p cols ring), .is (aL (aSs K (knownS cols.length w))), .is (aI K (j : Int))] ++ ss3) _ _
  refine ws_tail hss3 rfl ?_
  show WS [.is A, .any, .is aTape, .is (aI K (i' : Int)), .is (aD K (netD p cols ring)), .is (aD K (netD q cols' ring')), .is (aSt K Cs p cols), .is (aW K Cs p cols ring), .is (aL (aSs K (knownS cols.length w))), .is (aI K (j : Int)), .any, .any, .any, .any, .any] _ _
  refine ws_seq (ws_asg (wr_call (wa_cons (wr_var rfl (wa_cons (wr_var rfl (wa_nil ⟨_, _, p, cols, ring, rfl, le_rfl, le_rfl, fun d hd => ?_⟩)))))))
  show WS [.is A, .any, .is aTape, .is (aI K (i' : Int)), .is (aD K (netD p cols ring)), .is (aD K (netD q cols' ring')), .is (aSt K Cs p cols), .is (aW K Cs p cols ring), .is (aL (aSs K (knownS cols.length w))), .is (aI K (j : Int)), .is (aS K d), .any, .any, .any, .any] _ _
  rw [hwp] at hd
  have hn : cols.length < 10 := by omega
  have itd := it_of_odd hn (by omega) hd
  obtain ⟨d1, d2, d3⟩ := sB_w (it_sB itd)
  have hseat := it_seat itd
  refine ws_seq (ws_ifF (wf_two (K := K) (b := seatB cols.length p.w d) ?_ ?_ ?_) (ws_next ?_))
  · exact wr_meth (wr_var rfl ⟨io_O (notW (by decide)), wa_cons (wr_var rfl (wa_nil ⟨_, _, p, cols, ring, d, rfl, le_rfl, by omega, le_rfl, le_rfl⟩))⟩)
  · exact wr_methK (wr_var rfl ⟨io_O (notW (by decide)), wa_cons (wr_var rfl (wa_nil ⟨rfl, _, _, p, cols, ring, d, rfl, le_rfl, by omega, le_rfl, le_rfl⟩))⟩)
  · refine wr_inS (K := K) (wr_repr (wr_var rfl ⟨d, sho_S le_rfl, d1, d2, d3, _, le_rfl, wr_var rfl ⟨knownS cols.length w, le_LQ, ?_⟩⟩))
    rw [hwp, hseat]
    exact le_rfl
  refine ws_seq (ws_asg (wr_L (fr_cat (wr_call (wa_cons (wr_var rfl (wa_cons (wr_var rfl (wa_cons (wr_int (K := K) (wa_nil ⟨_, _, _, p, cols, ring, w, 4, rfl, le_rfl, le_rfl, hwp, hw3, by omega, le_rfl, by omega, fun l nd hg hl4 => ⟨_, le_rfl, wr_L (fr_rep (wr_lst (wa_cons (wr_var rfl (wa_nil ⟨by simp, _, le_rfl, wr_pick (K := K) (wr_var rfl ⟨le_rfl, wr_int (K := K) ⟨2, le_rfl, by decide, by decide, fun r hr => ⟨r, le_rfl, by omega, by simp, _, fun _ _ z => z, _, le_rfl, ?_, (l.map pairD ++ List.replicate r d).map (aS K), ?_, ?_⟩⟩⟩)⟩)))))⟩⟩)))))))))))
  · rw [List.length_map, rep_one, List.length_replicate]
    omega
  · rw [rep_one, List.map_append, List.map_map, List.map_replicate]
    exact leC_L (leAll_app (leAll_map fun s _ => le_DS) LeAll.rfl)
  have hds : ∀ x ∈ l.map pairD ++ List.replicate r d, itB cols.length w x = true := fun x hx => by
    rcases List.mem_append.mp hx with hx | hx
    · obtain ⟨s, hs, rfl⟩ := List.mem_map.mp hx
      exact it_pair hn (by omega) (hg s hs)
    · rw [List.eq_of_mem_replicate hx]
      exact itd
  have hdl : (l.map pairD ++ List.replicate r d).length ≤ 6 := by
    rw [List.length_append, List.length_map, List.length_replicate]
    omega
  generalize l.map pairD ++ List.replicate r d = ds at hds hdl ⊢
  show WS [.is A, .any, .is aTape, .is (aI K (i' : Int)), .is (aD K (netD p cols ring)), .is (aD K (netD q cols' ring')), .is (aSt K Cs p cols), .is (aW K Cs p cols ring), .is (aL (aSs K (knownS cols.length w))), .is (aI K (j : Int)), .is (aS K d), .is (aL (ds.map (aS K))), .any, .any, .any] _ _
  refine ws_seq (ws_asg (wr_one (K := K) (wr_var rfl ⟨le_rfl, wr_lst (wa_cons (wr_var rfl (wa_cons (wr_var rfl (wa_cons (wr_L (fr_cat (wr_var rfl ⟨_, le_rfl, wr_L (fr_take (wr_var rfl ⟨_, le_LQ, wr_int (K := K) ⟨1, le_rfl, _, fun _ _ z => z, _, le_rfl, ?_, _, fun _ _ z => z, ?_⟩⟩))⟩))))))))⟩)))
  · rw [List.length_take, List.length_map]
    omega
  refine wa_cons (wr_tupOf (K := K) (wr_var rfl ⟨_, le_LQ, wa_cons (wr_call (wa_cons (wr_var rfl (wa_nil ⟨_, rfl, le_rfl, fun d' hd' => wa_nil ⟨by simp, _, le_rfl, by simp, by simp, fun C hC => ?_⟩⟩))))⟩))
  have th : Th K cols.length w C := by
    rw [← List.map_take, ← List.map_append] at hC
    simp only [List.mem_cons, List.not_mem_nil, or_false] at hC
    rcases hC with rfl | rfl | rfl | rfl | rfl
    · exact th_list hds (by omega)
    · exact th_list hds (by omega)
    · refine th_list (fun x hx => ?_) (by rw [List.length_append, List.length_take]; omega)
      rcases List.mem_append.mp hx with hx | hx
      · exact hds x hx
      · exact hds x (List.mem_of_mem_take hx)
    · exact th_tup KT hds (by omega)
    · exact th_any KT hn (by omega) hd'
  show WS [.is A, .any, .is aTape, .is (aI K (i' : Int)), .is (aD K (netD p cols ring)), .is (aD K (netD q cols' ring')), .is (aSt K Cs p cols), .is (aW K Cs p cols ring), .is (aL (aSs K (knownS cols.length w))), .is (aI K (j : Int)), .is (aS K d), .is C, .any, .any, .any] _ _
  obtain ⟨D, sh, ⟨w1, w2, w3⟩, th⟩ := th
  have key : ∃ b : Bool, (∀ Φ : AV → Prop, Φ (aB K b) → pAreSp K [aD K (netD p cols ring), C] Φ) ∧ (∀ Φ : AV → Prop, Φ (aB K b) → pAreV K Cs [aW K Cs p cols ring, C] Φ) := by
    rcases th with ⟨es, lC, tC', hes, ies⟩ | ⟨t, tC', kt⟩
    · refine ⟨areSB cols.length w es, fun Φ k => ⟨_, _, p, cols, ring, w, rfl, le_rfl, hwp, hw3, by omega, .inl ⟨es, lC, tC', by omega, fun x hx => sB_okD (it_sB (ies x hx)), k⟩⟩, fun Φ k => ⟨_, _, p, cols, ring, rfl, le_rfl, by omega, .inl ⟨es, lC, tC', by omega, ?_⟩⟩⟩
      rw [hwp, are_eq hn (by omega) ies]
      exact k
    · exact ⟨false, fun Φ k => ⟨_, _, p, cols, ring, w, rfl, le_rfl, hwp, hw3, by omega, .inr ⟨t, tC', kt, k⟩⟩, fun Φ k => ⟨_, _, p, cols, ring, rfl, le_rfl, by omega, .inr ⟨t, tC', kt, k⟩⟩⟩
  obtain ⟨b, key1, key2⟩ := key
  refine ws_seq (ws_par (wa_cons (wr_repr (wr_var rfl ⟨D, sh, w1, w2, w3, wa_cons (wr_call (wa_cons (wr_var rfl (wa_cons (wr_var rfl (wa_nil (key1 _ (wa_nil ⟨_, _, rfl, rfl, ?_⟩))))))))⟩))))
  show WS [.is A, .any, .is aTape, .is (aI K (i' : Int)), .is (aD K (netD p cols ring)), .is (aD K (netD q cols' ring')), .is (aSt K Cs p cols), .is (aW K Cs p cols ring), .is (aL (aSs K (knownS cols.length w))), .is (aI K (j : Int)), .is (aS K d), .is C, .is (aD K (.str D.shown)), .is (aB K b), .any] _ _
  refine ws_ifF (wf_or (wf_two (K := K) (b := b) ?_ ?_ ?_) (wt_test (K := K) ?_)) (ws_next ⟨_, rfl, rfl⟩)
  · exact wr_meth (wr_var rfl ⟨io_O (notW (by decide)), wa_cons (wr_var rfl (wa_nil (key2 _ le_rfl)))⟩)
  · exact wr_methK (wr_var rfl ⟨io_O (notW (by decide)), wa_cons (wr_var rfl (wa_nil ⟨rfl, key2 _ le_rfl⟩))⟩)
  · exact wr_var rfl le_rfl
  · exact wr_neS (wr_repr (wr_var rfl ⟨D, sh, w1, w2, w3, _, le_rfl, wr_var rfl ⟨_, le_rfl, _, le_rfl, by simp⟩⟩))
end
end G.J

set_option maxHeartbeats 4000000
/-! What the derivations of the laws about webs share: calls of defs, methods, classes. -/
namespace K5
open PySem PySem.Spec PyProof.Rows L2 Tp G
/-- what the top has left -/
structure Txt (K : PySem.W.Frag) (mg : Str → Option Value) (Cs : J.Cl) : Prop where
  kt : KitTy K
  ks : KitSeq K
  fc : FrCls K Cs.F
  fis : FrIs K Cs.F
  sc : J.StCls K Cs.S
  sis : FrIs K Cs.S
  wc : J.WbCls K Cs.W
  wis : FrIs K Cs.W
  nfS : PySem.W.notFirst K Cs.W (.ref Cs.S) = true
  kfS : PySem.W.kitOne K (.ref Cs.S) (.ref Cs.W) = some false
  frame : mg "Frame" = some (.ref Cs.F)
  stretch : mg "Stretch" = some (.ref Cs.S)
  web : mg "Web" = some (.ref Cs.W)
  widest : ∃ u, mg "WIDEST" = some u ∧ RelV (.int 3) u
  need : ∃ u, mg "GREATEST_NEED" = some u ∧ RelV (.int 9) u
  b_int : mg "int" = none
  b_bool : mg "bool" = none
  b_tuple : mg "tuple" = none
  b_list : mg "list" = none
  b_set : mg "set" = none
  b_len : mg "len" = none
  b_isinstance : mg "isinstance" = none
  b_sorted : mg "sorted" = none
  b_all : mg "all" = none
  b_range : mg "range" = none
  b_max : mg "max" = none
  b_min : mg "min" = none
  b_enumerate : mg "enumerate" = none
  b_repr : mg "repr" = none
section
variable (P : Program) (w : World) (K : PySem.W.Frag) (mg : Str → Option Value) (base : Heap)
/-- a def's place, its function object, its promise, for callers -/
def DefOk (k : Nat) (x : Str) (ps : List Str) (sp : Sp) : Prop := ∃ f fd, mg x = some (.ref f) ∧ PySem.W.keepIn K (.ref f) = true ∧ Binds K fd ps [] ∧ FnOk P w K mg base CX0 k f fd ps sp
/-- the same of a def that asks for reprs -/
def DefG (k : Nat) (x : Str) (ps : List Str) (sp : Sp) : Prop := ∃ f fd, mg x = some (.ref f) ∧ PySem.W.keepIn K (.ref f) = true ∧ Binds K fd ps [] ∧ FnG P w K mg base k f fd ps sp
def MeOk (k : Nat) (C : Addr) (m : Str) (ps : List Str) (kw : Str) (sp : Sp) : Prop := ∃ f fd, Meth K C m f ∧ Binds K fd ps [] ∧ FnOk P w K mg base CX0 k f fd ps sp ∧ ∃ g, KBn K fd ps 1 [kw] g J.gApp
def MeO0 (k : Nat) (C : Addr) (m : Str) (sp : Sp) : Prop := ∃ f fd, Meth K C m f ∧ Binds K fd ["self"] [] ∧ FnOk P w K mg base CX0 k f fd ["self"] sp
def PrOk (k : Nat) (C : Addr) (f : Str) (sp : Sp) : Prop := ∃ p g fd, PropOf K C f p g ∧ Binds K fd ["self"] [] ∧ FnOk P w K mg base CX0 k g fd ["self"] sp
def EqOk (k : Nat) (C : Addr) (sp : Sp) : Prop := ∃ f fd, PySem.W.findIn K (.ref C) "__eq__" = some (some (.ref f)) ∧ PySem.W.isFn K (.ref f) = true ∧ Binds K fd ["self", "other"] [] ∧ FnOk P w K mg base CX0 k f fd ["self", "other"] sp
def LnOk (k : Nat) (C : Addr) (sp : Sp) : Prop := ∃ f fd, PySem.W.findIn K (.ref C) "__len__" = some (some (.ref f)) ∧ PySem.W.isFn K (.ref f) = true ∧ Binds K fd ["self"] [] ∧ FnOk P w K mg base CX0 k f fd ["self"] sp
abbrev pF : List Str := ["self", "width", "inner", "outer"]
abbrev pS : List Str := ["self", "frame", "columns"]
abbrev pW : List Str := ["self", "stretch", "closed"]
def FrOk (C : Addr) : Prop := ∃ fI fd, Mk K C fI ∧ FnOk P w K mg base CX0 6 fI fd pF (spFrame K C) ∧ ∃ g, KBn K fd pF 2 ["inner", "outer"] g J.gApp
def StOk (Cs : J.Cl) : Prop := ∃ fI fd, Mk K Cs.S fI ∧ FnOk P w K mg base CX0 5 fI fd pS (J.spI Cs.S (J.pStr K Cs)) ∧ Binds K fd pS []
def WbOk (Cs : J.Cl) : Prop := ∃ fI fd, Mk K Cs.W fI ∧ FnOk P w K mg base CX0 3 fI fd pW (J.spI Cs.W (J.pWeb K Cs)) ∧ (∃ g, KBn K fd pW 2 ["closed"] g J.gApp) ∧ (∃ g, KBn K fd pW 1 ["closed", "stretch"] g J.gRv) ∧ ∃ ds, Vals [.bl false] ds ∧ Binds K fd pW ds
end
section
variable {X : Cx} {x m : Str} {k : Nat} {ps : List Str} {kw : Str} {sp : Sp} {C f : Addr} {fd : FuncData} {Cs : J.Cl} {e o : Expr} {es : List Expr} {kws : List Keyword} {t tk : TA} {ta : TE} {p pos apos : Pos} {v : V}
theorem pe_d (h : DefOk X.prog X.w X.K X.mg X.base k x ps sp) (hr : Room k X.A) (hg : Gl X x) (ha : PA X (e :: es) t) (hdb : (x == ("__debug__" : Str)) = false := by decide)
    (he : starEach (e :: es) X.env = (false, eval e X.env) :: starEach es X.env := by rfl) (hpl : (backTo pos (starEach es X.env)).any (·.1) = false := by rfl) : PE X (.Call (.Name x p) (e :: es) [] pos) (tCall sp [] E0 t) := by
  obtain ⟨f, fd, hm, hk, b, F⟩ := h
  exact pe_call F hr hg hm hk b .nil (fun _ _ _ _ _ _ _ h => h.elim) ha hdb he hpl
theorem pe_d0 (h : DefOk X.prog X.w X.K X.mg X.base k x ps sp) (hr : Room k X.A) (hg : Gl X x) (hdb : (x == ("__debug__" : Str)) = false := by decide) : PE X (.Call (.Name x p) [] [] pos) (tCall sp [] E0 tNil) := by
  obtain ⟨f, fd, hm, hk, b, F⟩ := h
  exact pe_call0 F hr hg hm hk b .nil (fun _ _ _ _ _ _ _ h => h.elim) hdb
theorem run_fnG {pins : List (Addr × Obj)} {σ : L2.St} {H : Hp} {s : Shared} {Q : VK} {us : List Value} {vs : List V} (F : FnG X.prog X.w X.K X.mg X.base k f fd ps sp) (hc : Calm X.A) (hr : Room k X.A) (bd : Binds X.K fd ps []) (I : Inv X pins σ H s)
    (r : Vals vs us) (h : sp vs H Q E0) : wpAny (model X.prog X.w) X.A (call (.ref f) us) (EP X pins σ Q) X.xe s := by
  have ln := F.len _ _ _ _ h
  have bt : BindsTo s fd ⟨us, []⟩ (ps.zip us) := by
    have z := bd s us I.kIn (by rw [List.append_nil, ← r.length]; exact ln)
    simpa using z
  refine wpAny_call (codeAny_mono (F.run X.A X.stack s H ⟨us, []⟩ us vs _ E0 hc hr I.env0 bt r h) fun r s' q => ?_)
  cases r with
  | error e => exact q.elim
  | ok fl =>
    cases fl with
    | ret w => exact I.after q
    | next => exact False.elim q
    | brk => exact False.elim q
    | cont => exact False.elim q
theorem pe_dG (h : DefG X.prog X.w X.K X.mg X.base k x ps sp) (hc : Calm X.A) (hr : Room k X.A) (hg : Gl X x) (ha : PA X (e :: es) t) (hdb : (x == ("__debug__" : Str)) = false := by decide)
    (he : starEach (e :: es) X.env = (false, eval e X.env) :: starEach es X.env := by rfl) (hpl : (backTo pos (starEach es X.env)).any (·.1) = false := by rfl) : PE X (.Call (.Name x p) (e :: es) [] pos) (tCall sp [] E0 t) := by
  obtain ⟨f, fd, hm, hk, b, F⟩ := h
  refine ⟨fun pins s σ H Q I h => ?_⟩
  refine wpAny_Call_Name_kw (ld_glob I hg hm ?_ hdb)
  refine PySem.W.callWith_K (h₀ := X.base) I.ok.mod.kin hk (thn (ha.run pos pins s σ H _ I h) fun us s1 ⟨vs, H1, I1, r, q⟩ => ⟨I1.kIn, ?_⟩) he hpl
  exact run_fnG F hc hr b I1 r (by have q : sp (vs ++ []) H1 Q E0 := q; rw [List.append_nil] at q; exact q)
theorem pe_gc (hg : Gl X x) (h : ∃ u, X.mg x = some u ∧ RelV v u) (hdb : (x == ("__debug__" : Str)) = false := by decide) : PE X (.Name x pos) (tC v) := by
  obtain ⟨u, h1, h2⟩ := h
  exact pe_glob hg h1 h2 hdb
theorem pe_fA (h : FrOk X.prog X.w X.K X.mg X.base C) (hf : X.mg "Frame" = some (.ref C)) (hr : Room 7 X.A) (hg : Gl X "Frame") (ha : PA X [e] t) (hk : PK X kws tk) (hall : (backToKw pos (keywordEach kws X.env)).all (·.1.isSome) = true := by rfl) (hks : (backToKw pos (keywordEach kws X.env)).filterMap (·.1) = (["inner", "outer"] : List Str) := by rfl)
    (he : starEach [e] X.env = (false, eval e X.env) :: starEach [] X.env := by rfl) (hpl : ((backTo pos (starEach [e] X.env)).any (·.1) || (backToKw pos (keywordEach kws X.env)).any (·.1.isNone)) = false := by rfl) : PE X (.Call (.Name "Frame" p) [e] kws pos) (tMakeK C 1 2 (spFrame X.K C) J.gApp E0 t tk) := by
  obtain ⟨fI, fd, M, F, g, b⟩ := h
  exact pe_makeK (n := 1) M F hr hg hf b (fun _ _ _ _ _ _ _ h => h.elim) ha hk hall hks (by decide) he hpl
theorem pe_st (h : StOk X.prog X.w X.K X.mg X.base Cs) (hf : X.mg "Stretch" = some (.ref Cs.S)) (hr : Room 6 X.A) (hg : Gl X "Stretch") (ha : PA X (e :: es) t)
    (he : starEach (e :: es) X.env = (false, eval e X.env) :: starEach es X.env := by rfl) (hpl : (backTo pos (starEach es X.env)).any (·.1) = false := by rfl) : PE X (.Call (.Name "Stretch" p) (e :: es) [] pos) (tMake Cs.S (J.spI Cs.S (J.pStr X.K Cs)) [] E0 t) := by
  obtain ⟨fI, fd, M, F, b⟩ := h
  exact pe_make M F hr hg hf b .nil (fun _ _ _ _ _ _ _ h => h.elim) ha (by decide) he hpl
theorem pe_wA (h : WbOk X.prog X.w X.K X.mg X.base Cs) (hf : X.mg "Web" = some (.ref Cs.W)) (hr : Room 4 X.A) (hg : Gl X "Web") (ha : PA X [e] t) (hk : PK X kws tk) (hall : (backToKw pos (keywordEach kws X.env)).all (·.1.isSome) = true := by rfl) (hks : (backToKw pos (keywordEach kws X.env)).filterMap (·.1) = (["closed"] : List Str) := by rfl)
    (he : starEach [e] X.env = (false, eval e X.env) :: starEach [] X.env := by rfl) (hpl : ((backTo pos (starEach [e] X.env)).any (·.1) || (backToKw pos (keywordEach kws X.env)).any (·.1.isNone)) = false := by rfl) : PE X (.Call (.Name "Web" p) [e] kws pos) (tMakeK Cs.W 1 1 (J.spI Cs.W (J.pWeb X.K Cs)) J.gApp E0 t tk) := by
  obtain ⟨fI, fd, M, F, ⟨g, b⟩, _, _⟩ := h
  exact pe_makeK (n := 1) M F hr hg hf b (fun _ _ _ _ _ _ _ h => h.elim) ha hk hall hks (by decide) he hpl
theorem pe_wR (h : WbOk X.prog X.w X.K X.mg X.base Cs) (hf : X.mg "Web" = some (.ref Cs.W)) (hr : Room 4 X.A) (hg : Gl X "Web") (hk : PK X kws tk) (hall : (backToKw pos (keywordEach kws X.env)).all (·.1.isSome) = true := by rfl) (hks : (backToKw pos (keywordEach kws X.env)).filterMap (·.1) = (["closed", "stretch"] : List Str) := by rfl)
    (hpl : ((backTo pos (starEach [] X.env)).any (·.1) || (backToKw pos (keywordEach kws X.env)).any (·.1.isNone)) = false := by rfl) : PE X (.Call (.Name "Web" p) [] kws pos) (tMakeK Cs.W 0 2 (J.spI Cs.W (J.pWeb X.K Cs)) J.gRv E0 tNil tk) := by
  obtain ⟨fI, fd, M, F, _, ⟨g, b⟩, _⟩ := h
  exact pe_makeK0 M F hr hg hf b (fun _ _ _ _ _ _ _ h => h.elim) hk hall hks (by decide) hpl
theorem pe_wD (h : WbOk X.prog X.w X.K X.mg X.base Cs) (hf : X.mg "Web" = some (.ref Cs.W)) (hr : Room 4 X.A) (hg : Gl X "Web") (ha : PA X (e :: es) t)
    (he : starEach (e :: es) X.env = (false, eval e X.env) :: starEach es X.env := by rfl) (hpl : (backTo pos (starEach es X.env)).any (·.1) = false := by rfl) : PE X (.Call (.Name "Web" p) (e :: es) [] pos) (tMake Cs.W (J.spI Cs.W (J.pWeb X.K Cs)) [.bl false] E0 t) := by
  obtain ⟨fI, fd, M, F, _, _, ds, rd, b⟩ := h
  exact pe_make M F hr hg hf b rd (fun _ _ _ _ _ _ _ h => h.elim) ha (by decide) he hpl
theorem pe_mP {pl : Sem Bool} (h : MeOk X.prog X.w X.K X.mg X.base k C m ps kw sp) (cl : Cls X.K C) (hr : Room k X.A) (ho : PE X o ta) (ha : PA X (e :: es) t) (he : starEach (e :: es) X.env = (false, eval e X.env) :: starEach es X.env := by rfl) (hpl : (backTo pos (starEach es X.env)).any (·.1) = false := by rfl)
    (ht : eval (.Call (.Attribute o m apos) (e :: es) [] pos) X.env = (do
      let ov ← eval o X.env
      standAt apos.atName
      let (f, first) ← holding [ov] (getMethod ov m pl)
      callWith pos f first (backTo pos (starEach (e :: es) X.env)) (backToKw pos (keywordEach [] X.env))) := by rfl) : PE X (.Call (.Attribute o m apos) (e :: es) [] pos) (tMeth C m sp [] E0 ta t) := by
  obtain ⟨f, fd, M, b, F, _⟩ := h
  exact pe_meth (pl := pl) ho cl M F hr b .nil (fun _ _ _ _ _ _ _ h => h.elim) ha he hpl ht
theorem pe_m0 {pl : Sem Bool} (h : MeO0 X.prog X.w X.K X.mg X.base k C m sp) (cl : Cls X.K C) (hr : Room k X.A) (ho : PE X o ta)
    (ht : eval (.Call (.Attribute o m apos) [] [] pos) X.env = (do
      let ov ← eval o X.env
      standAt apos.atName
      let (f, first) ← holding [ov] (getMethod ov m pl)
      callWith pos f first (backTo pos (starEach [] X.env)) (backToKw pos (keywordEach [] X.env))) := by rfl) : PE X (.Call (.Attribute o m apos) [] [] pos) (tMeth C m sp [] E0 ta tNil) := by
  obtain ⟨f, fd, M, b, F⟩ := h
  exact pe_meth0 (pl := pl) ho cl M F hr b .nil (fun _ _ _ _ _ _ _ h => h.elim) ht
theorem pe_mK {pl : Sem Bool} (h : MeOk X.prog X.w X.K X.mg X.base k C m ps kw sp) (cl : Cls X.K C) (hr : Room k X.A) (ho : PE X o ta) (hk : PK X kws tk) (hall : (backToKw pos (keywordEach kws X.env)).all (·.1.isSome) = true := by rfl) (hks : (backToKw pos (keywordEach kws X.env)).filterMap (·.1) = ([kw] : List Str) := by rfl)
    (hpl : ((backTo pos (starEach [] X.env)).any (·.1) || (backToKw pos (keywordEach kws X.env)).any (·.1.isNone)) = false := by rfl)
    (ht : eval (.Call (.Attribute o m apos) [] kws pos) X.env = (do
      let ov ← eval o X.env
      standAt apos.atName
      let (f, first) ← holding [ov] (getMethod ov m pl)
      callWith pos f first (backTo pos (starEach [] X.env)) (backToKw pos (keywordEach kws X.env))) := by rfl) : PE X (.Call (.Attribute o m apos) [] kws pos) (tMethK C m 1 sp J.gApp E0 ta tk) := by
  obtain ⟨f, fd, M, _, F, g, b⟩ := h
  exact pe_methK0 (pl := pl) ho cl M F hr b (fun _ _ _ _ _ _ _ h => h.elim) hk hall hks hpl ht
theorem pe_pr (h : PrOk X.prog X.w X.K X.mg X.base k C m sp) (cl : Cls X.K C) (hr : Room (k + 1) X.A) (ho : PE X o ta) (hab : attributeBase o m X.env (eval o X.env) = eval o X.env := by rfl) : PE X (.Attribute o m pos) (tProp C sp [] E0 ta) := by
  obtain ⟨q, g, fd, p, b, F⟩ := h
  exact pe_prop ho cl p F hr b .nil (fun _ _ _ _ _ _ _ h => h.elim) hab
theorem op_eq_ (h : EqOk X.prog X.w X.K X.mg X.base k C sp) (hr : Room k X.A) : OpR X (compareOp .Eq) (rEqF X.K C sp) := by
  obtain ⟨f, fd, a, i, b, F⟩ := h
  exact op_eqF F a i b hr
theorem call_ln (h : LnOk X.prog X.w X.K X.mg X.base k C sp) (hr : Room (k + 1) X.A) : CallR X (.builtin "len") (rLenO C sp) := by
  obtain ⟨f, fd, a, i, b, F⟩ := h
  exact call_lenO F a i b hr
/-! ### how many arguments -/
theorem len_W {pre : J.SpP} {n : Nat} (h : ∀ As Φ, pre As Φ → As.length = n) {vs : List V} {H : Hp} {Q : VK} {E : XK} (s : J.spW pre vs H Q E) : vs.length = n := by
  obtain ⟨As, Φ, O, hp, _, ps, _⟩ := s
  rw [J.allV_len ps, h As Φ hp]
theorem len_F {pre : J.SpFP} {n : Nat} (h : ∀ As Φ, pre As Φ → As.length = n) {vs : List V} {H : Hp} {Q : VK} {E : XK} (s : J.spF pre vs H Q E) : vs.length = n := by
  obtain ⟨As, Φ, O, hp, _, ps, _⟩ := s
  rw [J.allV_len ps, h As Φ hp]
theorem len_I {pre : List J.AV → (List (Str × J.AV) → Prop) → Prop} {n : Nat} (h : ∀ As Φ, pre As Φ → As.length = n) {vs : List V} {H : Hp} {Q : VK} {E : XK} (s : J.spI C pre vs H Q E) : vs.length = n + 1 := by
  obtain ⟨x, dx, rest, As, Φ, O, rfl, _, hp, _, _, ps, _⟩ := s
  rw [List.length_cons, J.allV_len ps, h As Φ hp]
end
end K5

set_option maxHeartbeats 4000000
namespace K5
open PySem PySem.Spec PyProof.Rows L2 Tp G
def top (i : Nat) : Stmt := PySem.Challenge.pw_sparkrows_k05_webs_told.main.body.getD i (.Pass ⟨0, 0, 0, 0⟩)
abbrev NPick3 : List Str := ["tape", "many", "found", "once"]
abbrev NGrid5 : List Str := ["many", "wide", "found", "at", "row"]
abbrev NPr : List Str := ["value", "width"]
abbrev sIsInt : Stmt := top 13
theorem qIsInt : FnScope NVal1 ["value"] (defScope sIsInt) := ⟨rfl, rfl, rfl, by decide +kernel, rfl, by decide +kernel, by decide +kernel⟩
abbrev sPlace : Stmt := top 14
theorem qPlace : FnScope NVal2 ["value", "many"] (defScope sPlace) := ⟨rfl, rfl, rfl, by decide +kernel, rfl, by decide +kernel, by decide +kernel⟩
abbrev sPair : Stmt := top 15
theorem qPair : FnScope NPr ["value", "width"] (defScope sPair) := ⟨rfl, rfl, rfl, by decide +kernel, rfl, by decide +kernel, by decide +kernel⟩
abbrev sOuter : Stmt := top 16
theorem qOuter : FnScope NPairs ["value", "width"] (defScope sOuter) := ⟨rfl, rfl, rfl, by decide +kernel, rfl, by decide +kernel, by decide +kernel⟩
abbrev sInner : Stmt := top 17
theorem qInner : FnScope NPairs ["value", "width"] (defScope sInner) := ⟨rfl, rfl, rfl, by decide +kernel, rfl, by decide +kernel, by decide +kernel⟩
abbrev sInit : Stmt := inClass (top 18) 0
theorem qInit : FnScope NFr ["self", "width", "inner", "outer"] (defScope sInit) := ⟨rfl, rfl, rfl, by decide +kernel, rfl, by decide +kernel, by decide +kernel⟩
abbrev sEq : Stmt := inClass (top 18) 1
theorem qEq : FnScope NEq ["self", "other"] (defScope sEq) := ⟨rfl, rfl, rfl, by decide +kernel, rfl, by decide +kernel, by decide +kernel⟩
abbrev sBesD : Stmt := inClass (top 18) 2
theorem qBesD : FnScope NBes ["self", "row"] (defScope sBesD) := ⟨rfl, rfl, rfl, by decide +kernel, rfl, by decide +kernel, by decide +kernel⟩
abbrev sOnD : Stmt := inClass (top 18) 3
theorem qOnD : FnScope NOn ["self", "row"] (defScope sOnD) := ⟨rfl, rfl, rfl, by decide +kernel, rfl, by decide +kernel, by decide +kernel⟩
abbrev sBackD : Stmt := inClass (top 18) 4
theorem qBackD : FnScope NOn ["self", "row"] (defScope sBackD) := ⟨rfl, rfl, rfl, by decide +kernel, rfl, by decide +kernel, by decide +kernel⟩
abbrev sCell : Stmt := top 19
theorem qCell : FnScope J.N_cell ["value"] (defScope sCell) := ⟨rfl, rfl, rfl, by decide +kernel, rfl, by decide +kernel, by decide +kernel⟩
abbrev sCol : Stmt := top 20
theorem qCol : FnScope J.N_col ["frame", "value"] (defScope sCol) := ⟨rfl, rfl, rfl, by decide +kernel, rfl, by decide +kernel, by decide +kernel⟩
abbrev sSI : Stmt := inClass (top 21) 0
theorem qSI : FnScope J.N_sInit ["self", "frame", "columns"] (defScope sSI) := ⟨rfl, rfl, rfl, by decide +kernel, rfl, by decide +kernel, by decide +kernel⟩
abbrev sSE : Stmt := inClass (top 21) 1
theorem qSE : FnScope J.N_sEq ["self", "other"] (defScope sSE) := ⟨rfl, rfl, rfl, by decide +kernel, rfl, by decide +kernel, by decide +kernel⟩
abbrev sSL : Stmt := inClass (top 21) 2
theorem qSL : FnScope J.N_sLen ["self"] (defScope sSL) := ⟨rfl, rfl, rfl, by decide +kernel, rfl, by decide +kernel, by decide +kernel⟩
abbrev sSC : Stmt := inClass (top 21) 5
theorem qSC : FnScope J.N_sCols ["self"] (defScope sSC) := ⟨rfl, rfl, rfl, by decide +kernel, rfl, by decide +kernel, by decide +kernel⟩
abbrev sWI : Stmt := inClass (top 22) 0
theorem qWI : FnScope J.N_wInit ["self", "stretch", "closed"] (defScope sWI) := ⟨rfl, rfl, rfl, by decide +kernel, rfl, by decide +kernel, by decide +kernel⟩
abbrev sWE : Stmt := inClass (top 22) 1
theorem qWE : FnScope J.N_wEq ["self", "other"] (defScope sWE) := ⟨rfl, rfl, rfl, by decide +kernel, rfl, by decide +kernel, by decide +kernel⟩
abbrev sWS : Stmt := inClass (top 22) 2
theorem qWS : FnScope J.N_seats ["self"] (defScope sWS) := ⟨rfl, rfl, rfl, by decide +kernel, rfl, by decide +kernel, by decide +kernel⟩
abbrev sWQ : Stmt := inClass (top 22) 3
theorem qWQ : FnScope J.N_isSeat ["self", "value"] (defScope sWQ) := ⟨rfl, rfl, rfl, by decide +kernel, rfl, by decide +kernel, by decide +kernel⟩
abbrev sWA : Stmt := inClass (top 22) 4
theorem qWA : FnScope J.N_areSeats ["self", "value"] (defScope sWA) := ⟨rfl, rfl, rfl, by decide +kernel, rfl, by decide +kernel, by decide +kernel⟩
abbrev sWC : Stmt := inClass (top 22) 5
theorem qWC : FnScope J.N_wCell ["self", "seat"] (defScope sWC) := ⟨rfl, rfl, rfl, by decide +kernel, rfl, by decide +kernel, by decide +kernel⟩
abbrev sWN : Stmt := inClass (top 22) 6
theorem qWN : FnScope J.N_near ["self", "seat"] (defScope sWN) := ⟨rfl, rfl, rfl, by decide +kernel, rfl, by decide +kernel, by decide +kernel⟩
abbrev sWT : Stmt := inClass (top 22) 10
theorem qWT : FnScope J.N_at ["self", "place"] (defScope sWT) := ⟨rfl, rfl, rfl, by decide +kernel, rfl, by decide +kernel, by decide +kernel⟩
abbrev sTape : Stmt := top 24
theorem qTape : FnScope NTape ["script", "start"] (defScope sTape) := ⟨rfl, rfl, rfl, by decide +kernel, rfl, by decide +kernel, by decide +kernel⟩
abbrev sPick : Stmt := top 25
theorem qPick : FnScope NPick3 ["tape", "many"] (defScope sPick) := ⟨rfl, rfl, rfl, by decide +kernel, rfl, by decide +kernel, by decide +kernel⟩
abbrev sOne : Stmt := top 26
theorem qOne : FnScope NOne ["tape", "things"] (defScope sOne) := ⟨rfl, rfl, rfl, by decide +kernel, rfl, by decide +kernel, by decide +kernel⟩
abbrev sShuf : Stmt := top 27
theorem qShuf : FnScope NShuf ["tape", "things"] (defScope sShuf) := ⟨rfl, rfl, rfl, by decide +kernel, rfl, by decide +kernel, by decide +kernel⟩
abbrev sGrid : Stmt := top 30
theorem qGrid : FnScope NGrid5 ["many", "wide"] (defScope sGrid) := ⟨rfl, rfl, rfl, by decide +kernel, rfl, by decide +kernel, by decide +kernel⟩
abbrev sKnown : Stmt := top 31
theorem qKnown : FnScope NKnown [] (defScope sKnown) := ⟨rfl, rfl, rfl, by decide +kernel, rfl, by decide +kernel, by decide +kernel⟩
abbrev sDrawn : Stmt := top 32
theorem qDrawn : FnScope NDrawn ["tape", "most"] (defScope sDrawn) := ⟨rfl, rfl, rfl, by decide +kernel, rfl, by decide +kernel, by decide +kernel⟩
abbrev sMade : Stmt := top 36
theorem qMade : FnScope NMade ["plan"] (defScope sMade) := ⟨rfl, rfl, rfl, by decide +kernel, rfl, by decide +kernel, by decide +kernel⟩
abbrev sUn : Stmt := top 28
theorem qUn : FnScope J.N_unlike ["things"] (defScope sUn) := ⟨rfl, rfl, rfl, by decide +kernel, rfl, by decide +kernel, by decide +kernel⟩
abbrev sAny : Stmt := top 29
theorem qAny : FnScope NAny ["tape"] (defScope sAny) := ⟨rfl, rfl, rfl, by decide +kernel, rfl, by decide +kernel, by decide +kernel⟩
abbrev sDC : Stmt := top 33
theorem qDC : FnScope J.N_dcell ["tape"] (defScope sDC) := ⟨rfl, rfl, rfl, by decide +kernel, rfl, by decide +kernel, by decide +kernel⟩
abbrev sPil : Stmt := top 34
theorem qPil : FnScope J.N_piles ["tape", "plan", "many"] (defScope sPil) := ⟨rfl, rfl, rfl, by decide +kernel, rfl, by decide +kernel, by decide +kernel⟩
abbrev sNet : Stmt := top 35
theorem qNet : FnScope J.N_net ["tape", "most", "many"] (defScope sNet) := ⟨rfl, rfl, rfl, by decide +kernel, rfl, by decide +kernel, by decide +kernel⟩
abbrev sMB : Stmt := top 37
theorem qMB : FnScope J.N_mband ["plan", "piles"] (defScope sMB) := ⟨rfl, rfl, rfl, by decide +kernel, rfl, by decide +kernel, by decide +kernel⟩
abbrev sMW : Stmt := top 38
theorem qMW : FnScope J.N_mweb ["net"] (defScope sMW) := ⟨rfl, rfl, rfl, by decide +kernel, rfl, by decide +kernel, by decide +kernel⟩
abbrev sSp : Stmt := top 39
theorem qSp : FnScope J.N_spots ["net"] (defScope sSp) := ⟨rfl, rfl, rfl, by decide +kernel, rfl, by decide +kernel, by decide +kernel⟩
abbrev sGr2 : Stmt := top 30
theorem qGr2 : FnScope J.N_grid ["many", "wide"] (defScope sGr2) := ⟨rfl, rfl, rfl, by decide +kernel, rfl, by decide +kernel, by decide +kernel⟩
abbrev sClo : Stmt := top 40
theorem qClo : FnScope J.N_close ["net", "spot"] (defScope sClo) := ⟨rfl, rfl, rfl, by decide +kernel, rfl, by decide +kernel, by decide +kernel⟩
abbrev sBox : Stmt := top 41
theorem qBox : FnScope J.N_box ["net", "spot"] (defScope sBox) := ⟨rfl, rfl, rfl, by decide +kernel, rfl, by decide +kernel, by decide +kernel⟩
abbrev sSome : Stmt := top 42
theorem qSome : FnScope J.N_some ["tape", "net", "many"] (defScope sSome) := ⟨rfl, rfl, rfl, by decide +kernel, rfl, by decide +kernel, by decide +kernel⟩
abbrev sASp : Stmt := top 43
theorem qASp : FnScope J.N_areSp ["net", "value_here"] (defScope sASp) := ⟨rfl, rfl, rfl, by decide +kernel, rfl, by decide +kernel, by decide +kernel⟩
abbrev sOdd : Stmt := top 44
theorem qOdd : FnScope J.N_odd ["tape", "net"] (defScope sOdd) := ⟨rfl, rfl, rfl, by decide +kernel, rfl, by decide +kernel, by decide +kernel⟩
abbrev sRi : Stmt := top 45
theorem qRi : FnScope J.N_right ["net", "web"] (defScope sRi) := ⟨rfl, rfl, rfl, by decide +kernel, rfl, by decide +kernel, by decide +kernel⟩
abbrev sLaw : Stmt := top 46
theorem qLaw : FnScope J.N_law5 ["script"] (defScope sLaw) := ⟨rfl, rfl, rfl, by decide +kernel, rfl, by decide +kernel, by decide +kernel⟩
/-- the scope of a comprehension -/
def lcScope : Expr → Scope
  | .ListComp _ _ sc _ => sc
  | _ => defScope (.Pass ⟨0, 0, 0, 0⟩)
def retOf : Stmt → Expr
  | .Return (some e) _ => e
  | _ => .Constant .none 0 ⟨0, 0, 0, 0⟩
section
variable {P : Program} {w : World} {K : PySem.W.Frag} {mg : Str → Option Value} {base : Heap} {Cs : J.Cl} {f : Addr} {fd : FuncData}
theorem ok_isInt (F : Fun K "is_integer" "is_integer" sIsInt f fd) (T : Txt K mg Cs) : FnOk P w K mg base CX0 1 f fd ["value"] (spIsInt K) := by
  refine F.ok qIsInt (fun vs H Q E h => ?_) (fun cdv A outer s H vs Q E hr h => ⟨t_isInt K, PSs.nox ?_, pure_isInt T.kt vs H Q E h⟩)
  · obtain ⟨_, _, rfl, _⟩ := h
    rfl
  · exact (pss_one (ps_ret (pe_and (pe_callB call_isi (by rfl) T.b_isinstance PyProof.Rows.boot_isinstance (pa_cons (pv 0) (pa_cons (pe_bltn (by rfl) T.b_int PyProof.Rows.Boot.«int» rfl) pa_nil))) (pe_one (pe_not (pe_callB call_isi (by rfl) T.b_isinstance PyProof.Rows.boot_isinstance (pa_cons (pv 0) (pa_cons (pe_bltn (by rfl) T.b_bool PyProof.Rows.Boot.«bool» rfl) pa_nil))))))))
theorem ok_place (F : Fun K "is_place" "is_place" sPlace f fd) (T : Txt K mg Cs) (GI : DefOk P w K mg base 1 "is_integer" ["value"] (spIsInt K)) : FnOk P w K mg base CX0 2 f fd ["value", "many"] (spPlace K) := by
  refine F.ok qPlace (fun vs H Q E h => ?_) (fun cdv A outer s H vs Q E hr h => ⟨t_place K, PSs.nox ?_, pure_place vs H Q E h⟩)
  · obtain ⟨_, _, _, rfl, _⟩ := h
    rfl
  · exact (pss_one (ps_ret (pe_and (pe_d GI (hr.mono (by decide)) rfl (pa_cons (pv 0) pa_nil)) (pe_one (pe_chain op_le op_lt pe_int (pv 0) (pv 1))))))
theorem ok_pair (F : Fun K "_is_pair" "_is_pair" sPair f fd) (T : Txt K mg Cs) (GPl : DefOk P w K mg base 2 "is_place" ["value", "many"] (spPlace K)) : FnOk P w K mg base CX0 3 f fd ["value", "width"] (spPair K) := by
  refine F.ok qPair (fun vs H Q E h => ?_) (fun cdv A outer s H vs Q E hr h => ⟨t_pair K, PSs.nox ?_, pure_pair T.kt vs H Q E h⟩)
  · obtain ⟨_, _, _, rfl, _⟩ := h
    rfl
  · exact (pss_cons (ps_if (PW.pt (pw_or (pt_not (pt_val (pe_callB call_isi (by rfl) T.b_isinstance PyProof.Rows.boot_isinstance (pa_cons (pv 0) (pa_cons (pe_bltn (by rfl) T.b_tuple PyProof.Rows.Boot.«tuple» rfl) pa_nil))))) (pw_or1 (pt_cmpR op_ne (pe_callB call_len_seq (by rfl) T.b_len PySem.boot_len (pa_cons (pv 0) pa_nil)) pe_int (nomark _))))) (pss_one (ps_ret pe_bl)) pss_nil) (pss_one (ps_ret (pe_and (pe_d GPl (hr.mono (by decide)) rfl (pa_cons (pe_ix ix_tup (pv 0) pe_int (fun _ _ => rfl)) (pa_cons (pv 1) pa_nil))) (pe_one (pe_d GPl (hr.mono (by decide)) rfl (pa_cons (pe_ix ix_tup (pv 0) pe_int (fun _ _ => rfl)) (pa_cons (pv 1) pa_nil))))))))
theorem ok_outer (F : Fun K "_are_outer" "_are_outer" sOuter f fd) (T : Txt K mg Cs) (GPa : DefOk P w K mg base 3 "_is_pair" ["value", "width"] (spPair K)) : FnOk P w K mg base CX0 4 f fd ["value", "width"] (spOuter K) := by
  refine F.ok qOuter (fun vs H Q E h => ?_) (fun cdv A outer s H vs Q E hr h => ⟨t_outer K, PSs.nox ?_, pure_outer T.ks vs H Q E h⟩)
  · obtain ⟨_, _, _, rfl, _⟩ := h
    rfl
  · exact (pss_cons (ps_if (pt_not (pt_val (pe_callB call_isiT (by rfl) T.b_isinstance PyProof.Rows.boot_isinstance (pa_cons (pv 0) (pa_cons (pe_tup (pa_cons (pe_bltn (by rfl) T.b_list PyProof.Rows.Boot.«list» rfl) (pa_cons (pe_bltn (by rfl) T.b_tuple PyProof.Rows.Boot.«tuple» rfl) pa_nil))) pa_nil))))) (pss_one (ps_ret pe_bl)) pss_nil) (pss_one (ps_ret (pe_and (pe_callB (cr_all rfl) (by rfl) T.b_all PyProof.Rows.Boot.«all» (pa_cons (pe_lc (own := [("pair", 2)]) rfl qOuter.nd (pi_seq (pv 0)) (blkOk_by (N := NPairs) (sc := defScope sOuter) (by decide +kernel)) (fun _ _ _ _ _ => (pg_name (i := 2) qOuter.nd rfl (Or.inl rfl))) (fun _ _ _ _ _ => pts_nil) (fun _ _ _ _ _ => (pe_d GPa (hr.mono (by decide)) rfl (pa_cons (pv 2) (pa_cons (pv 1) pa_nil))))) pa_nil)) (pe_one (pe_cmpR op_eq (pe_lenSetT rfl hr.units (by rfl) T.b_len (by rfl) T.b_set (pv 0)) (pe_callB call_len_seq (by rfl) T.b_len PySem.boot_len (pa_cons (pv 0) pa_nil)) (nomark _)))))))
theorem ok_inner (F : Fun K "_are_inner" "_are_inner" sInner f fd) (T : Txt K mg Cs) (GOu : DefOk P w K mg base 4 "_are_outer" ["value", "width"] (spOuter K)) : FnOk P w K mg base CX0 5 f fd ["value", "width"] (spInner K) := by
  refine F.ok qInner (fun vs H Q E h => ?_) (fun cdv A outer s H vs Q E hr h => ⟨t_inner K, PSs.nox ?_, pure_inner vs H Q E h⟩)
  · obtain ⟨_, _, _, rfl, _⟩ := h
    rfl
  · exact (pss_one (ps_ret (pe_and (pe_d GOu (hr.mono (by decide)) rfl (pa_cons (pv 0) (pa_cons (pv 1) pa_nil))) (pe_one (pe_callB (cr_all rfl) (by rfl) T.b_all PyProof.Rows.Boot.«all» (pa_cons (pe_lc (own := [("pair", 2)]) rfl qInner.nd (pi_seq (pv 0)) (blkOk_by (N := NPairs) (sc := defScope sInner) (by decide +kernel)) (fun _ _ _ _ _ => (pg_name (i := 2) qInner.nd rfl (Or.inl rfl))) (fun _ _ _ _ _ => pts_nil) (fun _ _ _ _ _ => (pe_cmpR op_lt (pe_ix ix_tup (pv 2) pe_int (fun _ _ => rfl)) (pe_ix ix_tup (pv 2) pe_int (fun _ _ => rfl)) (nomark _)))) pa_nil))))))
theorem ok_eq (F : Fun K "__eq__" "Frame.__eq__" sEq f fd) (T : Txt K mg Cs) : FnOk P w K mg base CX0 1 f fd ["self", "other"] (spFEq K Cs.F) := by
  refine F.ok qEq (fun vs H Q E h => ?_) (fun cdv A outer s H vs Q E hr h => ⟨t_eqF K Cs.F, PSs.nox ?_, pure_eqF T.fc T.fis vs H Q E h⟩)
  · obtain ⟨_, _, _, _, rfl, _⟩ := h
    rfl
  · exact (pss_one (ps_ret (pe_and (pe_callB call_isi (by rfl) T.b_isinstance PyProof.Rows.boot_isinstance (pa_cons (pv 1) (pa_cons (pe_glob rfl T.frame rfl) pa_nil))) (pe_and (pe_cmpR op_eq (pe_fld (pv 0) rfl) (pe_fld (pv 1) rfl) (nomark _)) (pe_and (pe_cmpR (op_eqD hr.units) (pe_fld (pv 0) rfl) (pe_fld (pv 1) rfl) (nomark _)) (pe_one (pe_cmpR (op_eqD hr.units) (pe_fld (pv 0) rfl) (pe_fld (pv 1) rfl) (nomark _))))))))
theorem ok_bes (F : Fun K "beside" "Frame.beside" sBesD f fd) (T : Txt K mg Cs) : FnOk P w K mg base CX0 1 f fd ["self", "row"] (sBes K Cs.F) := by
  refine F.ok qBesD (fun vs H Q E h => ?_) (fun cdv A outer s H vs Q E hr h => ⟨t_bes K, PSs.nox ?_, pure_bes T.fc vs H Q E h⟩)
  · obtain ⟨_, _, _, rfl, _⟩ := h
    rfl
  · exact (pss_cons (ps_setLc (i := 2) (own := [("a", 4), ("b", 5)]) rfl qBesD.nd rfl rfl (sw_true rfl rfl rfl (by decide +kernel)) (pi_tup (pe_fld (pv 0) rfl)) (blkOk_by (N := NBes) (sc := defScope sBesD) (by decide +kernel)) (fun _ _ _ _ _ => (pg_tup rfl (pgs_cons (pg_name (i := 4) qBesD.nd rfl (Or.inl rfl)) (pgs_cons (pg_name (i := 5) qBesD.nd rfl (Or.inl rfl)) pgs_nil)))) (fun _ _ _ _ _ => (pts_one (pt_cmpR op_eq (pv 5) (pv 1) (nomark _)))) (fun _ _ _ _ _ => (pv 4))) (pss_cons (ps_setLc (i := 3) (own := [("a", 4), ("b", 5)]) rfl qBesD.nd rfl rfl (sw_true rfl rfl rfl (by decide +kernel)) (pi_tup (pe_fld (pv 0) rfl)) (blkOk_by (N := NBes) (sc := defScope sBesD) (by decide +kernel)) (fun _ _ _ _ _ => (pg_tup rfl (pgs_cons (pg_name (i := 4) qBesD.nd rfl (Or.inl rfl)) (pgs_cons (pg_name (i := 5) qBesD.nd rfl (Or.inl rfl)) pgs_nil)))) (fun _ _ _ _ _ => (pts_one (pt_cmpR op_eq (pv 4) (pv 1) (nomark _)))) (fun _ _ _ _ _ => (pv 5))) (pss_one (ps_ret (pe_callTy call_tuple_of (by rfl) T.b_tuple PyProof.Rows.Boot.«tuple» (pa_cons (pe_op op_cat (pv 2) (pv 3)) pa_nil))))))
theorem ok_on (F : Fun K "onward" "Frame.onward" sOnD f fd) (T : Txt K mg Cs) : FnOk P w K mg base CX0 1 f fd ["self", "row"] (sOn K Cs.F) := by
  refine F.ok qOnD (fun vs H Q E h => ?_) (fun cdv A outer s H vs Q E hr h => ⟨t_on K, PSs.nox ?_, pure_on T.fc vs H Q E h⟩)
  · obtain ⟨_, _, _, rfl, _⟩ := h
    rfl
  · exact (pss_one (ps_ret (pe_callTy call_tuple_of (by rfl) T.b_tuple PyProof.Rows.Boot.«tuple» (pa_cons (pe_lc (own := [("a", 2), ("b", 3)]) rfl qOnD.nd (pi_tup (pe_fld (pv 0) rfl)) (blkOk_by (N := NOn) (sc := defScope sOnD) (by decide +kernel)) (fun _ _ _ _ _ => (pg_tup rfl (pgs_cons (pg_name (i := 2) qOnD.nd rfl (Or.inl rfl)) (pgs_cons (pg_name (i := 3) qOnD.nd rfl (Or.inl rfl)) pgs_nil)))) (fun _ _ _ _ _ => (pts_one (pt_cmpR op_eq (pv 2) (pv 1) (nomark _)))) (fun _ _ _ _ _ => (pv 3))) pa_nil))))
theorem ok_back (F : Fun K "back" "Frame.back" sBackD f fd) (T : Txt K mg Cs) : FnOk P w K mg base CX0 1 f fd ["self", "row"] (sBack K Cs.F) := by
  refine F.ok qBackD (fun vs H Q E h => ?_) (fun cdv A outer s H vs Q E hr h => ⟨t_back K, PSs.nox ?_, pure_back T.fc vs H Q E h⟩)
  · obtain ⟨_, _, _, rfl, _⟩ := h
    rfl
  · exact (pss_one (ps_ret (pe_callTy call_tuple_of (by rfl) T.b_tuple PyProof.Rows.Boot.«tuple» (pa_cons (pe_lc (own := [("a", 2), ("b", 3)]) rfl qBackD.nd (pi_tup (pe_fld (pv 0) rfl)) (blkOk_by (N := NOn) (sc := defScope sBackD) (by decide +kernel)) (fun _ _ _ _ _ => (pg_tup rfl (pgs_cons (pg_name (i := 2) qBackD.nd rfl (Or.inl rfl)) (pgs_cons (pg_name (i := 3) qBackD.nd rfl (Or.inl rfl)) pgs_nil)))) (fun _ _ _ _ _ => (pts_one (pt_cmpR op_eq (pv 3) (pv 1) (nomark _)))) (fun _ _ _ _ _ => (pv 2))) pa_nil))))
theorem ok_init {e0 e1 : V} (F : FunD K "__init__" "Frame.__init__" (defArgs sInit) (defBody sInit) (defScope sInit) [] [("inner", e0), ("outer", e1)] f fd) (T : Txt K mg Cs) (GI : DefOk P w K mg base 1 "is_integer" ["value"] (spIsInt K)) (GIn : DefOk P w K mg base 5 "_are_inner" ["value", "width"] (spInner K)) (GOu : DefOk P w K mg base 4 "_are_outer" ["value", "width"] (spOuter K)) : FnOk P w K mg base CX0 6 f fd ["self", "width", "inner", "outer"] (spFrame K Cs.F) := by
  refine F.ok qInit (fun vs H Q E h => ?_) (fun cdv A outer s H vs Q E hr h => ⟨t_frame K tNever tNever tNever, PSs.nox ?_, pure_frame T.fc vs H Q E h⟩)
  · obtain ⟨_, _, _, _, _, rfl, _⟩ := h
    rfl
  · exact (pss_cons (ps_if (PW.pt (pw_or (pt_not (pt_val (pe_d GI (hr.mono (by decide)) rfl (pa_cons (pv 1) pa_nil)))) (pw_or1 (pt_not (pt_chain op_le op_le pe_int (pv 1) (pe_gc rfl T.widest)))))) (pss_one ps_never) pss_nil) (pss_cons (ps_if (pt_not (pt_val (pe_d GIn (hr.mono (by decide)) rfl (pa_cons (pv 2) (pa_cons (pv 1) pa_nil))))) (pss_one ps_never) pss_nil) (pss_cons (ps_if (pt_not (pt_val (pe_d GOu (hr.mono (by decide)) rfl (pa_cons (pv 3) (pa_cons (pv 1) pa_nil))))) (pss_one ps_never) pss_nil) (pss_cons (ps_fld (pv 0) (pv 1) rfl) (pss_cons (ps_fld (pv 0) (pe_callTy call_tuple_of (by rfl) T.b_tuple PyProof.Rows.Boot.«tuple» (pa_cons (pe_callB (cr_sortTT (d := 2) (B := 64) (by decide)) (by rfl) T.b_sorted PyProof.Rows.Boot.«sorted» (pa_cons (pv 2) pa_nil)) pa_nil)) rfl) (pss_one (ps_fld (pv 0) (pe_callTy call_tuple_of (by rfl) T.b_tuple PyProof.Rows.Boot.«tuple» (pa_cons (pe_callB (cr_sortTT (d := 2) (B := 64) (by decide)) (by rfl) T.b_sorted PyProof.Rows.Boot.«sorted» (pa_cons (pv 3) pa_nil)) pa_nil)) rfl)))))))
theorem ok_cell (F : Fun K "is_cell" "is_cell" sCell f fd) (T : Txt K mg Cs) (GPl : DefOk P w K mg base 2 "is_place" ["value", "many"] (spPlace K)) : FnOk P w K mg base CX0 3 f fd ["value"] (J.spW (J.pCell K)) := by
  refine F.ok qCell (fun vs H Q E h => ?_) (fun cdv A outer s H vs Q E hr h => ⟨J.t_cell K Cs, PSs.nox ?_, J.pure_cell T.kt vs H Q E h⟩)
  · exact len_W (fun As Φ h => by first | (obtain ⟨rfl, _⟩ := h; rfl) | (obtain ⟨_, rfl, _⟩ := h; rfl) | (obtain ⟨_, _, rfl, _⟩ := h; rfl) | (obtain ⟨_, _, _, rfl, _⟩ := h; rfl) | (obtain ⟨_, _, _, _, rfl, _⟩ := h; rfl) | (obtain ⟨_, _, _, _, _, rfl, _⟩ := h; rfl) | (obtain ⟨_, _, _, _, _, _, rfl, _⟩ := h; rfl) | (obtain ⟨_, _, _, _, _, _, _, rfl, _⟩ := h; rfl) | (obtain ⟨_, _, _, _, _, _, _, _, rfl, _⟩ := h; rfl) | (obtain ⟨_, _, _, _, _, _, _, _, _, rfl, _⟩ := h; rfl) | (obtain ⟨_, _, _, _, _, _, _, _, _, _, rfl, _⟩ := h; rfl) | (obtain ⟨_, _, _, _, _, _, _, _, _, _, _, rfl, _⟩ := h; rfl) | (obtain ⟨_, _, _, _, _, _, _, _, _, _, _, _, rfl, _⟩ := h; rfl)) h
  · exact (pss_cons (ps_if (PW.pt (pw_or (pt_not (pt_val (pe_callB call_isi (by rfl) T.b_isinstance PyProof.Rows.boot_isinstance (pa_cons (pv 0) (pa_cons (pe_bltn (by rfl) T.b_tuple PyProof.Rows.Boot.«tuple» rfl) pa_nil))))) (pw_or1 (pt_cmpR op_ne (pe_callB call_len_seq (by rfl) T.b_len PySem.boot_len (pa_cons (pv 0) pa_nil)) pe_int (nomark _))))) (pss_one (ps_ret pe_bl)) pss_nil) (pss_one (ps_ret (pe_and (pe_d GPl (hr.mono (by decide)) rfl (pa_cons (pe_ix ix_tup (pv 0) pe_int (fun _ _ => rfl)) (pa_cons (pe_op op_add (pe_gc rfl T.need) pe_int) pa_nil))) (pe_one (pe_callB call_isi (by rfl) T.b_isinstance PyProof.Rows.boot_isinstance (pa_cons (pe_ix ix_tup (pv 0) pe_int (fun _ _ => rfl)) (pa_cons (pe_bltn (by rfl) T.b_bool PyProof.Rows.Boot.«bool» rfl) pa_nil))))))))
theorem ok_col (F : Fun K "is_column" "is_column" sCol f fd) (T : Txt K mg Cs) (GCe : DefOk P w K mg base 3 "is_cell" ["value"] (J.spW (J.pCell K))) : FnOk P w K mg base CX0 4 f fd ["frame", "value"] (J.spW (J.pCol K Cs.F)) := by
  refine F.ok qCol (fun vs H Q E h => ?_) (fun cdv A outer s H vs Q E hr h => ⟨J.t_col K Cs (J.pCell K), PSs.nox ?_, J.pure_col T.kt T.fc vs H Q E h⟩)
  · exact len_W (fun As Φ h => by first | (obtain ⟨rfl, _⟩ := h; rfl) | (obtain ⟨_, rfl, _⟩ := h; rfl) | (obtain ⟨_, _, rfl, _⟩ := h; rfl) | (obtain ⟨_, _, _, rfl, _⟩ := h; rfl) | (obtain ⟨_, _, _, _, rfl, _⟩ := h; rfl) | (obtain ⟨_, _, _, _, _, rfl, _⟩ := h; rfl) | (obtain ⟨_, _, _, _, _, _, rfl, _⟩ := h; rfl) | (obtain ⟨_, _, _, _, _, _, _, rfl, _⟩ := h; rfl) | (obtain ⟨_, _, _, _, _, _, _, _, rfl, _⟩ := h; rfl) | (obtain ⟨_, _, _, _, _, _, _, _, _, rfl, _⟩ := h; rfl) | (obtain ⟨_, _, _, _, _, _, _, _, _, _, rfl, _⟩ := h; rfl) | (obtain ⟨_, _, _, _, _, _, _, _, _, _, _, rfl, _⟩ := h; rfl) | (obtain ⟨_, _, _, _, _, _, _, _, _, _, _, _, rfl, _⟩ := h; rfl)) h
  · exact (pss_cons (ps_if (PW.pt (pw_or (pt_not (pt_val (pe_callB call_isi (by rfl) T.b_isinstance PyProof.Rows.boot_isinstance (pa_cons (pv 1) (pa_cons (pe_bltn (by rfl) T.b_tuple PyProof.Rows.Boot.«tuple» rfl) pa_nil))))) (pw_or1 (pt_cmpR op_ne (pe_callB call_len_seq (by rfl) T.b_len PySem.boot_len (pa_cons (pv 1) pa_nil)) (pe_fld (pv 0) rfl) (nomark _))))) (pss_one (ps_ret pe_bl)) pss_nil) (pss_one (ps_ret (pe_callB (cr_all rfl) (by rfl) T.b_all PyProof.Rows.Boot.«all» (pa_cons (pe_lc (own := [("cell", 2)]) rfl qCol.nd (pi_tup (pv 1)) (blkOk_by (N := J.N_col) (sc := defScope sCol) (by decide +kernel)) (fun _ _ _ _ _ => (pg_name (i := 2) qCol.nd rfl (Or.inl rfl))) (fun _ _ _ _ _ => pts_nil) (fun _ _ _ _ _ => (pe_d GCe (hr.mono (by decide)) rfl (pa_cons (pv 2) pa_nil)))) pa_nil)))))
theorem ok_sI (F : Fun K "__init__" "Stretch.__init__" sSI f fd) (T : Txt K mg Cs) (GCo : DefOk P w K mg base 4 "is_column" ["frame", "value"] (J.spW (J.pCol K Cs.F))) : FnOk P w K mg base CX0 5 f fd ["self", "frame", "columns"] (J.spI Cs.S (J.pStr K Cs)) := by
  refine F.ok qSI (fun vs H Q E h => ?_) (fun cdv A outer s H vs Q E hr h => ⟨J.t_sInit K Cs (J.pCol K Cs.F), PSs.nox ?_, J.pure_sInit T.ks T.sc vs H Q E h⟩)
  · exact len_I (fun As Φ h => by first | (obtain ⟨rfl, _⟩ := h; rfl) | (obtain ⟨_, rfl, _⟩ := h; rfl) | (obtain ⟨_, _, rfl, _⟩ := h; rfl) | (obtain ⟨_, _, _, rfl, _⟩ := h; rfl) | (obtain ⟨_, _, _, _, rfl, _⟩ := h; rfl) | (obtain ⟨_, _, _, _, _, rfl, _⟩ := h; rfl) | (obtain ⟨_, _, _, _, _, _, rfl, _⟩ := h; rfl) | (obtain ⟨_, _, _, _, _, _, _, rfl, _⟩ := h; rfl) | (obtain ⟨_, _, _, _, _, _, _, _, rfl, _⟩ := h; rfl) | (obtain ⟨_, _, _, _, _, _, _, _, _, rfl, _⟩ := h; rfl) | (obtain ⟨_, _, _, _, _, _, _, _, _, _, rfl, _⟩ := h; rfl) | (obtain ⟨_, _, _, _, _, _, _, _, _, _, _, rfl, _⟩ := h; rfl) | (obtain ⟨_, _, _, _, _, _, _, _, _, _, _, _, rfl, _⟩ := h; rfl)) h
  · exact (pss_cons (ps_if (pt_not (pt_val (pe_callB call_isiT (by rfl) T.b_isinstance PyProof.Rows.boot_isinstance (pa_cons (pv 2) (pa_cons (pe_tup (pa_cons (pe_bltn (by rfl) T.b_list PyProof.Rows.Boot.«list» rfl) (pa_cons (pe_bltn (by rfl) T.b_tuple PyProof.Rows.Boot.«tuple» rfl) pa_nil))) pa_nil))))) (pss_one ps_never) pss_nil) (pss_cons (ps_for PassesOwn.never rfl (pi_enum rfl T.b_enumerate (pa_cons (pv 2) pa_nil)) (pg_tup rfl (pgs_cons (pg_name (i := 3) qSI.nd rfl (Or.inl rfl)) (pgs_cons (pg_name (i := 4) qSI.nd rfl (Or.inl rfl)) pgs_nil))) (pss_one (ps_if (pt_not (pt_val (pe_d GCo (hr.mono (by decide)) rfl (pa_cons (pv 1) (pa_cons (pv 4) pa_nil))))) (pss_one ps_never) pss_nil))) (pss_cons (ps_fld (pv 0) (pv 1) rfl) (pss_one (ps_fld (pv 0) (pe_callTy call_tuple_of (by rfl) T.b_tuple PyProof.Rows.Boot.«tuple» (pa_cons (pv 2) pa_nil)) rfl)))))
theorem ok_sE (F : Fun K "__eq__" "Stretch.__eq__" sSE f fd) (T : Txt K mg Cs) (EF : EqOk P w K mg base 1 Cs.F (spFEq K Cs.F)) : FnOk P w K mg base CX0 2 f fd ["self", "other"] (J.spW (J.pSEq K Cs)) := by
  refine F.ok qSE (fun vs H Q E h => ?_) (fun cdv A outer s H vs Q E hr h => ⟨J.t_sEq K Cs (rEqF K Cs.F (spFEq K Cs.F)), PSs.nox ?_, J.pure_sEq T.sc T.fis T.sis vs H Q E h⟩)
  · exact len_W (fun As Φ h => by first | (obtain ⟨rfl, _⟩ := h; rfl) | (obtain ⟨_, rfl, _⟩ := h; rfl) | (obtain ⟨_, _, rfl, _⟩ := h; rfl) | (obtain ⟨_, _, _, rfl, _⟩ := h; rfl) | (obtain ⟨_, _, _, _, rfl, _⟩ := h; rfl) | (obtain ⟨_, _, _, _, _, rfl, _⟩ := h; rfl) | (obtain ⟨_, _, _, _, _, _, rfl, _⟩ := h; rfl) | (obtain ⟨_, _, _, _, _, _, _, rfl, _⟩ := h; rfl) | (obtain ⟨_, _, _, _, _, _, _, _, rfl, _⟩ := h; rfl) | (obtain ⟨_, _, _, _, _, _, _, _, _, rfl, _⟩ := h; rfl) | (obtain ⟨_, _, _, _, _, _, _, _, _, _, rfl, _⟩ := h; rfl) | (obtain ⟨_, _, _, _, _, _, _, _, _, _, _, rfl, _⟩ := h; rfl) | (obtain ⟨_, _, _, _, _, _, _, _, _, _, _, _, rfl, _⟩ := h; rfl)) h
  · exact (pss_one (ps_ret (pe_and (pe_callB call_isi (by rfl) T.b_isinstance PyProof.Rows.boot_isinstance (pa_cons (pv 1) (pa_cons (pe_glob rfl T.stretch rfl) pa_nil))) (pe_and (pe_cmpR (op_eq_ EF (hr.mono (by decide))) (pe_fld (pv 0) rfl) (pe_fld (pv 1) rfl) (nomark _)) (pe_one (pe_cmpR (op_eqD hr.units) (pe_fld (pv 0) rfl) (pe_fld (pv 1) rfl) (nomark _)))))))
theorem ok_sL (F : Fun K "__len__" "Stretch.__len__" sSL f fd) (T : Txt K mg Cs) : FnOk P w K mg base CX0 1 f fd ["self"] (J.spW (J.pLen K Cs)) := by
  refine F.ok qSL (fun vs H Q E h => ?_) (fun cdv A outer s H vs Q E hr h => ⟨J.t_sLen K Cs, PSs.nox ?_, J.pure_sLen T.sc vs H Q E h⟩)
  · exact len_W (fun As Φ h => by first | (obtain ⟨rfl, _⟩ := h; rfl) | (obtain ⟨_, rfl, _⟩ := h; rfl) | (obtain ⟨_, _, rfl, _⟩ := h; rfl) | (obtain ⟨_, _, _, rfl, _⟩ := h; rfl) | (obtain ⟨_, _, _, _, rfl, _⟩ := h; rfl) | (obtain ⟨_, _, _, _, _, rfl, _⟩ := h; rfl) | (obtain ⟨_, _, _, _, _, _, rfl, _⟩ := h; rfl) | (obtain ⟨_, _, _, _, _, _, _, rfl, _⟩ := h; rfl) | (obtain ⟨_, _, _, _, _, _, _, _, rfl, _⟩ := h; rfl) | (obtain ⟨_, _, _, _, _, _, _, _, _, rfl, _⟩ := h; rfl) | (obtain ⟨_, _, _, _, _, _, _, _, _, _, rfl, _⟩ := h; rfl) | (obtain ⟨_, _, _, _, _, _, _, _, _, _, _, rfl, _⟩ := h; rfl) | (obtain ⟨_, _, _, _, _, _, _, _, _, _, _, _, rfl, _⟩ := h; rfl)) h
  · exact (pss_one (ps_ret (pe_callB call_len_seq (by rfl) T.b_len PySem.boot_len (pa_cons (pe_fld (pv 0) rfl) pa_nil))))
theorem ok_sC (F : Fun K "columns" "Stretch.columns" sSC f fd) (T : Txt K mg Cs) : FnOk P w K mg base CX0 1 f fd ["self"] (J.spW (J.pCols K Cs)) := by
  refine F.ok qSC (fun vs H Q E h => ?_) (fun cdv A outer s H vs Q E hr h => ⟨J.t_sCols K Cs, PSs.nox ?_, J.pure_sCols T.sc vs H Q E h⟩)
  · exact len_W (fun As Φ h => by first | (obtain ⟨rfl, _⟩ := h; rfl) | (obtain ⟨_, rfl, _⟩ := h; rfl) | (obtain ⟨_, _, rfl, _⟩ := h; rfl) | (obtain ⟨_, _, _, rfl, _⟩ := h; rfl) | (obtain ⟨_, _, _, _, rfl, _⟩ := h; rfl) | (obtain ⟨_, _, _, _, _, rfl, _⟩ := h; rfl) | (obtain ⟨_, _, _, _, _, _, rfl, _⟩ := h; rfl) | (obtain ⟨_, _, _, _, _, _, _, rfl, _⟩ := h; rfl) | (obtain ⟨_, _, _, _, _, _, _, _, rfl, _⟩ := h; rfl) | (obtain ⟨_, _, _, _, _, _, _, _, _, rfl, _⟩ := h; rfl) | (obtain ⟨_, _, _, _, _, _, _, _, _, _, rfl, _⟩ := h; rfl) | (obtain ⟨_, _, _, _, _, _, _, _, _, _, _, rfl, _⟩ := h; rfl) | (obtain ⟨_, _, _, _, _, _, _, _, _, _, _, _, rfl, _⟩ := h; rfl)) h
  · exact (pss_one (ps_ret (pe_callTy call_list_of (by rfl) T.b_list PyProof.Rows.Boot.«list» (pa_cons (pe_fld (pv 0) rfl) pa_nil))))
theorem ok_wI (F : FunD K "__init__" "Web.__init__" (defArgs sWI) (defBody sWI) (defScope sWI) [] [("closed", .bl false)] f fd) (T : Txt K mg Cs) (LS : LnOk P w K mg base 1 Cs.S (J.spW (J.pLen K Cs))) : FnOk P w K mg base CX0 3 f fd ["self", "stretch", "closed"] (J.spI Cs.W (J.pWeb K Cs)) := by
  refine F.ok qWI (fun vs H Q E h => ?_) (fun cdv A outer s H vs Q E hr h => ⟨J.t_wInit K Cs (J.pLen K Cs), PSs.nox ?_, J.pure_wInit T.wc vs H Q E h⟩)
  · exact len_I (fun As Φ h => by first | (obtain ⟨rfl, _⟩ := h; rfl) | (obtain ⟨_, rfl, _⟩ := h; rfl) | (obtain ⟨_, _, rfl, _⟩ := h; rfl) | (obtain ⟨_, _, _, rfl, _⟩ := h; rfl) | (obtain ⟨_, _, _, _, rfl, _⟩ := h; rfl) | (obtain ⟨_, _, _, _, _, rfl, _⟩ := h; rfl) | (obtain ⟨_, _, _, _, _, _, rfl, _⟩ := h; rfl) | (obtain ⟨_, _, _, _, _, _, _, rfl, _⟩ := h; rfl) | (obtain ⟨_, _, _, _, _, _, _, _, rfl, _⟩ := h; rfl) | (obtain ⟨_, _, _, _, _, _, _, _, _, rfl, _⟩ := h; rfl) | (obtain ⟨_, _, _, _, _, _, _, _, _, _, rfl, _⟩ := h; rfl) | (obtain ⟨_, _, _, _, _, _, _, _, _, _, _, rfl, _⟩ := h; rfl) | (obtain ⟨_, _, _, _, _, _, _, _, _, _, _, _, rfl, _⟩ := h; rfl)) h
  · exact (pss_cons (ps_set (i := 3) qWI.nd rfl (Or.inl rfl) (pe_ifExp (pt_val (pv 2)) pe_int pe_int)) (pss_cons (ps_if (pt_cmpR op_lt (pe_callB (call_ln LS (hr.mono (by decide))) (by rfl) T.b_len PySem.boot_len (pa_cons (pv 1) pa_nil)) (pv 3) (nomark _)) (pss_one ps_never) pss_nil) (pss_cons (ps_fld (pv 0) (pv 1) rfl) (pss_one (ps_fld (pv 0) (pv 2) rfl)))))
theorem ok_wE (F : Fun K "__eq__" "Web.__eq__" sWE f fd) (T : Txt K mg Cs) (ES : EqOk P w K mg base 2 Cs.S (J.spW (J.pSEq K Cs))) : FnOk P w K mg base CX0 3 f fd ["self", "other"] (J.spW (J.pWEq K Cs)) := by
  refine F.ok qWE (fun vs H Q E h => ?_) (fun cdv A outer s H vs Q E hr h => ⟨J.t_wEq K Cs (rEqF K Cs.S (J.spW (J.pSEq K Cs))), PSs.nox ?_, J.pure_wEq T.wc T.sis T.wis vs H Q E h⟩)
  · exact len_W (fun As Φ h => by first | (obtain ⟨rfl, _⟩ := h; rfl) | (obtain ⟨_, rfl, _⟩ := h; rfl) | (obtain ⟨_, _, rfl, _⟩ := h; rfl) | (obtain ⟨_, _, _, rfl, _⟩ := h; rfl) | (obtain ⟨_, _, _, _, rfl, _⟩ := h; rfl) | (obtain ⟨_, _, _, _, _, rfl, _⟩ := h; rfl) | (obtain ⟨_, _, _, _, _, _, rfl, _⟩ := h; rfl) | (obtain ⟨_, _, _, _, _, _, _, rfl, _⟩ := h; rfl) | (obtain ⟨_, _, _, _, _, _, _, _, rfl, _⟩ := h; rfl) | (obtain ⟨_, _, _, _, _, _, _, _, _, rfl, _⟩ := h; rfl) | (obtain ⟨_, _, _, _, _, _, _, _, _, _, rfl, _⟩ := h; rfl) | (obtain ⟨_, _, _, _, _, _, _, _, _, _, _, rfl, _⟩ := h; rfl) | (obtain ⟨_, _, _, _, _, _, _, _, _, _, _, _, rfl, _⟩ := h; rfl)) h
  · exact (pss_one (ps_ret (pe_and (pe_callB call_isi (by rfl) T.b_isinstance PyProof.Rows.boot_isinstance (pa_cons (pv 1) (pa_cons (pe_glob rfl T.web rfl) pa_nil))) (pe_and (pe_cmpR (op_eq_ ES (hr.mono (by decide))) (pe_fld (pv 0) rfl) (pe_fld (pv 1) rfl) (nomark _)) (pe_one (pe_cmpR op_eq (pe_fld (pv 0) rfl) (pe_fld (pv 1) rfl) (nomark _)))))))
theorem ok_wS (F : Fun K "seats" "Web.seats" sWS f fd) (T : Txt K mg Cs) (LS : LnOk P w K mg base 1 Cs.S (J.spW (J.pLen K Cs))) : FnOk P w K mg base CX0 3 f fd ["self"] (J.spF (J.pSeats K Cs)) := by
  refine F.ok qWS (fun vs H Q E h => ?_) (fun cdv A outer s H vs Q E hr h => ⟨J.t_seats K Cs (J.pLen K Cs), PSs.nox ?_, J.pure_seats T.fc T.sc T.wc vs H Q E h⟩)
  · exact len_F (fun As Φ h => by first | (obtain ⟨rfl, _⟩ := h; rfl) | (obtain ⟨_, rfl, _⟩ := h; rfl) | (obtain ⟨_, _, rfl, _⟩ := h; rfl) | (obtain ⟨_, _, _, rfl, _⟩ := h; rfl) | (obtain ⟨_, _, _, _, rfl, _⟩ := h; rfl) | (obtain ⟨_, _, _, _, _, rfl, _⟩ := h; rfl) | (obtain ⟨_, _, _, _, _, _, rfl, _⟩ := h; rfl) | (obtain ⟨_, _, _, _, _, _, _, rfl, _⟩ := h; rfl) | (obtain ⟨_, _, _, _, _, _, _, _, rfl, _⟩ := h; rfl) | (obtain ⟨_, _, _, _, _, _, _, _, _, rfl, _⟩ := h; rfl) | (obtain ⟨_, _, _, _, _, _, _, _, _, _, rfl, _⟩ := h; rfl) | (obtain ⟨_, _, _, _, _, _, _, _, _, _, _, rfl, _⟩ := h; rfl) | (obtain ⟨_, _, _, _, _, _, _, _, _, _, _, _, rfl, _⟩ := h; rfl)) h
  · exact (pss_cons (ps_set (i := 1) qWS.nd rfl (Or.inr rfl) (pe_fld (pe_fld (pe_fld (pv 0) rfl) rfl) rfl)) (pss_one (ps_ret (pe_lc2 (own := [("column", 2), ("row", 3)]) rfl qWS.nd (pi_range1 rfl T.b_range (pa_cons (pe_callB (call_ln LS (hr.mono (by decide))) (by rfl) T.b_len PySem.boot_len (pa_cons (pe_fld (pv 0) rfl) pa_nil)) pa_nil)) (blkOk_by (N := J.N_seats) (sc := defScope sWS) (by decide +kernel)) (by decide) (fun _ _ _ _ _ => (pg_name (i := 2) qWS.nd rfl (Or.inl rfl))) (fun _ _ _ _ _ => pts_nil) (fun _ _ _ _ _ => (pi_range1 rfl T.b_range (pa_cons (pv 1) pa_nil))) (fun _ _ _ _ _ => (pg_name (i := 3) qWS.nd rfl (Or.inl rfl))) (fun _ _ _ _ _ => pts_nil) (fun _ _ _ _ _ => (pe_tup (pa_cons (pv 2) (pa_cons (pv 3) pa_nil))))))))
theorem ok_wQ (F : Fun K "is_seat" "Web.is_seat" sWQ f fd) (T : Txt K mg Cs) (LS : LnOk P w K mg base 1 Cs.S (J.spW (J.pLen K Cs))) (GPl : DefOk P w K mg base 2 "is_place" ["value", "many"] (spPlace K)) : FnOk P w K mg base CX0 3 f fd ["self", "value"] (J.spW (J.pSeat K Cs)) := by
  refine F.ok qWQ (fun vs H Q E h => ?_) (fun cdv A outer s H vs Q E hr h => ⟨J.t_isSeat K Cs (J.pLen K Cs), PSs.nox ?_, J.pure_isSeat T.kt T.fc T.sc T.wc vs H Q E h⟩)
  · exact len_W (fun As Φ h => by first | (obtain ⟨rfl, _⟩ := h; rfl) | (obtain ⟨_, rfl, _⟩ := h; rfl) | (obtain ⟨_, _, rfl, _⟩ := h; rfl) | (obtain ⟨_, _, _, rfl, _⟩ := h; rfl) | (obtain ⟨_, _, _, _, rfl, _⟩ := h; rfl) | (obtain ⟨_, _, _, _, _, rfl, _⟩ := h; rfl) | (obtain ⟨_, _, _, _, _, _, rfl, _⟩ := h; rfl) | (obtain ⟨_, _, _, _, _, _, _, rfl, _⟩ := h; rfl) | (obtain ⟨_, _, _, _, _, _, _, _, rfl, _⟩ := h; rfl) | (obtain ⟨_, _, _, _, _, _, _, _, _, rfl, _⟩ := h; rfl) | (obtain ⟨_, _, _, _, _, _, _, _, _, _, rfl, _⟩ := h; rfl) | (obtain ⟨_, _, _, _, _, _, _, _, _, _, _, rfl, _⟩ := h; rfl) | (obtain ⟨_, _, _, _, _, _, _, _, _, _, _, _, rfl, _⟩ := h; rfl)) h
  · exact (pss_cons (ps_if (PW.pt (pw_or (pt_not (pt_val (pe_callB call_isi (by rfl) T.b_isinstance PyProof.Rows.boot_isinstance (pa_cons (pv 1) (pa_cons (pe_bltn (by rfl) T.b_tuple PyProof.Rows.Boot.«tuple» rfl) pa_nil))))) (pw_or1 (pt_cmpR op_ne (pe_callB call_len_seq (by rfl) T.b_len PySem.boot_len (pa_cons (pv 1) pa_nil)) pe_int (nomark _))))) (pss_one (ps_ret pe_bl)) pss_nil) (pss_one (ps_ret (pe_and (pe_d GPl (hr.mono (by decide)) rfl (pa_cons (pe_ix ix_tup (pv 1) pe_int (fun _ _ => rfl)) (pa_cons (pe_callB (call_ln LS (hr.mono (by decide))) (by rfl) T.b_len PySem.boot_len (pa_cons (pe_fld (pv 0) rfl) pa_nil)) pa_nil))) (pe_one (pe_d GPl (hr.mono (by decide)) rfl (pa_cons (pe_ix ix_tup (pv 1) pe_int (fun _ _ => rfl)) (pa_cons (pe_fld (pe_fld (pe_fld (pv 0) rfl) rfl) rfl) pa_nil))))))))
theorem ok_wA (F : Fun K "are_seats" "Web.are_seats" sWA f fd) (T : Txt K mg Cs) (MQ : MeOk P w K mg base 3 Cs.W "is_seat" ["self", "value"] "value" (J.spW (J.pSeat K Cs))) : FnOk P w K mg base CX0 4 f fd ["self", "value"] (J.spW (J.pAreV K Cs)) := by
  refine F.ok qWA (fun vs H Q E h => ?_) (fun cdv A outer s H vs Q E hr h => ⟨J.t_areSeats K Cs (J.pSeat K Cs), PSs.nox ?_, J.pure_areV T.kt vs H Q E h⟩)
  · exact len_W (fun As Φ h => by first | (obtain ⟨rfl, _⟩ := h; rfl) | (obtain ⟨_, rfl, _⟩ := h; rfl) | (obtain ⟨_, _, rfl, _⟩ := h; rfl) | (obtain ⟨_, _, _, rfl, _⟩ := h; rfl) | (obtain ⟨_, _, _, _, rfl, _⟩ := h; rfl) | (obtain ⟨_, _, _, _, _, rfl, _⟩ := h; rfl) | (obtain ⟨_, _, _, _, _, _, rfl, _⟩ := h; rfl) | (obtain ⟨_, _, _, _, _, _, _, rfl, _⟩ := h; rfl) | (obtain ⟨_, _, _, _, _, _, _, _, rfl, _⟩ := h; rfl) | (obtain ⟨_, _, _, _, _, _, _, _, _, rfl, _⟩ := h; rfl) | (obtain ⟨_, _, _, _, _, _, _, _, _, _, rfl, _⟩ := h; rfl) | (obtain ⟨_, _, _, _, _, _, _, _, _, _, _, rfl, _⟩ := h; rfl) | (obtain ⟨_, _, _, _, _, _, _, _, _, _, _, _, rfl, _⟩ := h; rfl)) h
  · exact (pss_cons (ps_if (pt_not (pt_val (pe_callB call_isi (by rfl) T.b_isinstance PyProof.Rows.boot_isinstance (pa_cons (pv 1) (pa_cons (pe_bltn (by rfl) T.b_list PyProof.Rows.Boot.«list» rfl) pa_nil))))) (pss_one (ps_ret pe_bl)) pss_nil) (pss_one (ps_ret (pe_and (pe_callB (cr_all rfl) (by rfl) T.b_all PyProof.Rows.Boot.«all» (pa_cons (pe_lc (own := [("seat", 2)]) rfl qWA.nd (pi_list (pv 1)) (blkOk_by (N := J.N_areSeats) (sc := defScope sWA) (by decide +kernel)) (fun _ _ _ _ _ => (pg_name (i := 2) qWA.nd rfl (Or.inl rfl))) (fun _ _ _ _ _ => pts_nil) (fun _ _ _ _ _ => (pe_mP MQ T.wc.cl (hr.mono (by decide)) (pv 0) (pa_cons (pv 2) pa_nil)))) pa_nil)) (pe_one (pe_cmpR op_eq (pe_lenSetT rfl hr.units (by rfl) T.b_len (by rfl) T.b_set (pv 1)) (pe_callB call_len_seq (by rfl) T.b_len PySem.boot_len (pa_cons (pv 1) pa_nil)) (nomark _)))))))
theorem ok_wC (F : Fun K "cell" "Web.cell" sWC f fd) (T : Txt K mg Cs) (MQ : MeOk P w K mg base 3 Cs.W "is_seat" ["self", "value"] "value" (J.spW (J.pSeat K Cs))) (PC : PrOk P w K mg base 1 Cs.S "columns" (J.spW (J.pCols K Cs))) : FnOk P w K mg base CX0 4 f fd ["self", "seat"] (J.spW (J.pCellAt K Cs)) := by
  refine F.ok qWC (fun vs H Q E h => ?_) (fun cdv A outer s H vs Q E hr h => ⟨J.t_wCell K Cs (J.pSeat K Cs) (J.pCols K Cs), PSs.nox ?_, J.pure_wCell T.sc T.wc vs H Q E h⟩)
  · exact len_W (fun As Φ h => by first | (obtain ⟨rfl, _⟩ := h; rfl) | (obtain ⟨_, rfl, _⟩ := h; rfl) | (obtain ⟨_, _, rfl, _⟩ := h; rfl) | (obtain ⟨_, _, _, rfl, _⟩ := h; rfl) | (obtain ⟨_, _, _, _, rfl, _⟩ := h; rfl) | (obtain ⟨_, _, _, _, _, rfl, _⟩ := h; rfl) | (obtain ⟨_, _, _, _, _, _, rfl, _⟩ := h; rfl) | (obtain ⟨_, _, _, _, _, _, _, rfl, _⟩ := h; rfl) | (obtain ⟨_, _, _, _, _, _, _, _, rfl, _⟩ := h; rfl) | (obtain ⟨_, _, _, _, _, _, _, _, _, rfl, _⟩ := h; rfl) | (obtain ⟨_, _, _, _, _, _, _, _, _, _, rfl, _⟩ := h; rfl) | (obtain ⟨_, _, _, _, _, _, _, _, _, _, _, rfl, _⟩ := h; rfl) | (obtain ⟨_, _, _, _, _, _, _, _, _, _, _, _, rfl, _⟩ := h; rfl)) h
  · exact (pss_cons (ps_if (pt_not (pt_val (pe_mP MQ T.wc.cl (hr.mono (by decide)) (pv 0) (pa_cons (pv 1) pa_nil)))) (pss_one ps_never) pss_nil) (pss_cons (ps_asg (pv 1) (pg_tup rfl (pgs_cons (pg_name (i := 2) qWC.nd rfl (Or.inl rfl)) (pgs_cons (pg_name (i := 3) qWC.nd rfl (Or.inl rfl)) pgs_nil)))) (pss_one (ps_ret (pe_ix ix_tup (pe_ix ix_list (pe_pr PC T.sc.cl (hr.mono (by decide)) (pe_fld (pv 0) rfl)) (pv 2) (fun _ _ => rfl)) (pv 3) (fun _ _ => rfl))))))
theorem ok_wT (F : Fun K "_at" "Web._at" sWT f fd) (T : Txt K mg Cs) (LS : LnOk P w K mg base 1 Cs.S (J.spW (J.pLen K Cs))) : FnOk P w K mg base CX0 3 f fd ["self", "place"] (J.spW (J.pAt K Cs)) := by
  refine F.ok qWT (fun vs H Q E h => ?_) (fun cdv A outer s H vs Q E hr h => ⟨J.t_at K Cs (J.pLen K Cs), PSs.nox ?_, J.pure_at T.sc T.wc vs H Q E h⟩)
  · exact len_W (fun As Φ h => by first | (obtain ⟨rfl, _⟩ := h; rfl) | (obtain ⟨_, rfl, _⟩ := h; rfl) | (obtain ⟨_, _, rfl, _⟩ := h; rfl) | (obtain ⟨_, _, _, rfl, _⟩ := h; rfl) | (obtain ⟨_, _, _, _, rfl, _⟩ := h; rfl) | (obtain ⟨_, _, _, _, _, rfl, _⟩ := h; rfl) | (obtain ⟨_, _, _, _, _, _, rfl, _⟩ := h; rfl) | (obtain ⟨_, _, _, _, _, _, _, rfl, _⟩ := h; rfl) | (obtain ⟨_, _, _, _, _, _, _, _, rfl, _⟩ := h; rfl) | (obtain ⟨_, _, _, _, _, _, _, _, _, rfl, _⟩ := h; rfl) | (obtain ⟨_, _, _, _, _, _, _, _, _, _, rfl, _⟩ := h; rfl) | (obtain ⟨_, _, _, _, _, _, _, _, _, _, _, rfl, _⟩ := h; rfl) | (obtain ⟨_, _, _, _, _, _, _, _, _, _, _, _, rfl, _⟩ := h; rfl)) h
  · exact (pss_cons (ps_set (i := 2) qWT.nd rfl (Or.inl rfl) (pe_callB (call_ln LS (hr.mono (by decide))) (by rfl) T.b_len PySem.boot_len (pa_cons (pe_fld (pv 0) rfl) pa_nil))) (pss_cons (ps_if (pt_val (pe_fld (pv 0) rfl)) (pss_one (ps_ret (pe_lst (pa_cons (pe_op op_mod (pv 1) (pv 2)) pa_nil)))) pss_nil) (pss_one (ps_ret (pe_ifExp (pt_chain op_le op_lt pe_int (pv 1) (pv 2)) (pe_lst (pa_cons (pv 1) pa_nil)) (pe_lst pa_nil))))))
theorem ok_wN (F : Fun K "neighbours" "Web.neighbours" sWN f fd) (T : Txt K mg Cs) (MQ : MeOk P w K mg base 3 Cs.W "is_seat" ["self", "value"] "value" (J.spW (J.pSeat K Cs))) (MT : MeOk P w K mg base 3 Cs.W "_at" ["self", "place"] "place" (J.spW (J.pAt K Cs))) (MB : MeOk P w K mg base 1 Cs.F "beside" ["self", "row"] "row" (sBes K Cs.F)) (MO : MeOk P w K mg base 1 Cs.F "onward" ["self", "row"] "row" (sOn K Cs.F)) (MK : MeOk P w K mg base 1 Cs.F "back" ["self", "row"] "row" (sBack K Cs.F)) : FnOk P w K mg base CX0 4 f fd ["self", "seat"] (J.spF (J.pNear K Cs)) := by
  refine F.ok qWN (fun vs H Q E h => ?_) (fun cdv A outer s H vs Q E hr h => ⟨J.t_near K Cs (J.pSeat K Cs) (J.pAt K Cs), PSs.nox ?_, J.pure_near T.sc T.wc vs H Q E h⟩)
  · exact len_F (fun As Φ h => by first | (obtain ⟨rfl, _⟩ := h; rfl) | (obtain ⟨_, rfl, _⟩ := h; rfl) | (obtain ⟨_, _, rfl, _⟩ := h; rfl) | (obtain ⟨_, _, _, rfl, _⟩ := h; rfl) | (obtain ⟨_, _, _, _, rfl, _⟩ := h; rfl) | (obtain ⟨_, _, _, _, _, rfl, _⟩ := h; rfl) | (obtain ⟨_, _, _, _, _, _, rfl, _⟩ := h; rfl) | (obtain ⟨_, _, _, _, _, _, _, rfl, _⟩ := h; rfl) | (obtain ⟨_, _, _, _, _, _, _, _, rfl, _⟩ := h; rfl) | (obtain ⟨_, _, _, _, _, _, _, _, _, rfl, _⟩ := h; rfl) | (obtain ⟨_, _, _, _, _, _, _, _, _, _, rfl, _⟩ := h; rfl) | (obtain ⟨_, _, _, _, _, _, _, _, _, _, _, rfl, _⟩ := h; rfl) | (obtain ⟨_, _, _, _, _, _, _, _, _, _, _, _, rfl, _⟩ := h; rfl)) h
  · exact (pss_cons (ps_if (pt_not (pt_val (pe_mP MQ T.wc.cl (hr.mono (by decide)) (pv 0) (pa_cons (pv 1) pa_nil)))) (pss_one ps_never) pss_nil) (pss_cons (ps_set (i := 2) qWN.nd rfl (Or.inr rfl) (pe_fld (pe_fld (pv 0) rfl) rfl)) (pss_cons (ps_asg (pv 1) (pg_tup rfl (pgs_cons (pg_name (i := 3) qWN.nd rfl (Or.inr rfl)) (pgs_cons (pg_name (i := 4) qWN.nd rfl (Or.inr rfl)) pgs_nil)))) (pss_cons (ps_setLc (i := 5) (own := [("other", 8)]) rfl qWN.nd rfl rfl (sw_true rfl rfl rfl (by decide +kernel)) (pi_tup (pe_mP MB T.fc.cl (hr.mono (by decide)) (pv 2) (pa_cons (pv 4) pa_nil))) (blkOk_by (N := J.N_near) (sc := defScope sWN) (by decide +kernel)) (fun _ _ _ _ _ => (pg_name (i := 8) qWN.nd rfl (Or.inl rfl))) (fun _ _ _ _ _ => pts_nil) (fun _ _ _ _ _ => (pe_tup (pa_cons (pv 3) (pa_cons (pv 8) pa_nil))))) (pss_cons (ps_setLc2 (i := 6) (own := [("place", 9), ("other", 8)]) rfl qWN.nd rfl rfl (sw_true rfl rfl rfl (by decide +kernel)) (pi_list (pe_mP MT T.wc.cl (hr.mono (by decide)) (pv 0) (pa_cons (pe_op op_sub (pv 3) pe_int) pa_nil))) (blkOk_by (N := J.N_near) (sc := defScope sWN) (by decide +kernel)) (by decide) (fun _ _ _ _ _ => (pg_name (i := 9) qWN.nd rfl (Or.inl rfl))) (fun _ _ _ _ _ => pts_nil) (fun _ _ _ _ _ => (pi_tup (pe_mP MK T.fc.cl (hr.mono (by decide)) (pv 2) (pa_cons (pv 4) pa_nil)))) (fun _ _ _ _ _ => (pg_name (i := 8) qWN.nd rfl (Or.inl rfl))) (fun _ _ _ _ _ => pts_nil) (fun _ _ _ _ _ => (pe_tup (pa_cons (pv 9) (pa_cons (pv 8) pa_nil))))) (pss_cons (ps_setLc2 (i := 7) (own := [("place", 9), ("other", 8)]) rfl qWN.nd rfl rfl (sw_true rfl rfl rfl (by decide +kernel)) (pi_list (pe_mP MT T.wc.cl (hr.mono (by decide)) (pv 0) (pa_cons (pe_op op_add (pv 3) pe_int) pa_nil))) (blkOk_by (N := J.N_near) (sc := defScope sWN) (by decide +kernel)) (by decide) (fun _ _ _ _ _ => (pg_name (i := 9) qWN.nd rfl (Or.inl rfl))) (fun _ _ _ _ _ => pts_nil) (fun _ _ _ _ _ => (pi_tup (pe_mP MO T.fc.cl (hr.mono (by decide)) (pv 2) (pa_cons (pv 4) pa_nil)))) (fun _ _ _ _ _ => (pg_name (i := 8) qWN.nd rfl (Or.inl rfl))) (fun _ _ _ _ _ => pts_nil) (fun _ _ _ _ _ => (pe_tup (pa_cons (pv 9) (pa_cons (pv 8) pa_nil))))) (pss_one (ps_ret (pe_callB (cr_sortTT (d := 2) (B := 64) (by decide)) (by rfl) T.b_sorted PyProof.Rows.Boot.«sorted» (pa_cons (pe_op op_cat (pe_op op_cat (pv 5) (pv 6)) (pv 7)) pa_nil))))))))))
theorem ok_tape (F : Fun K "_law_tape" "_law_tape" sTape f fd) (T : Txt K mg Cs) : FnOk P w K mg base CX0 1 f fd ["script", "start"] (spTape K) := by
  refine F.ok qTape (fun vs H Q E h => ?_) (fun cdv A outer s H vs Q E hr h => ⟨t_tape K, PSs.nox ?_, pure_tape vs H Q E h⟩)
  · obtain ⟨_, _, _, rfl, _⟩ := h
    rfl
  · exact (pss_cons (ps_set (i := 2) qTape.nd rfl (Or.inl rfl) (pe_op op_add pe_int (pe_op op_mul (pv 1) pe_int))) (pss_cons (ps_for PassesOwn.never rfl (pi_list (pv 0)) (pg_name (i := 3) qTape.nd rfl (Or.inl rfl)) (pss_one (ps_set (i := 2) qTape.nd rfl (Or.inl rfl) (pe_op op_add (pe_op op_mod (pe_callTy call_int1 (by rfl) T.b_int PyProof.Rows.boot_int (pa_cons (pe_op op_sqB (pe_op op_add (pe_op op_add (pe_op op_mul (pv 2) pe_int) (pe_op op_mulB (pv 3) (pv 3))) pe_int) pe_int) pa_nil)) pe_int) pe_int)))) (pss_cons (ps_set (i := 4) qTape.nd rfl (Or.inl rfl) (pe_ifExp (PW.pt (pw_and (pt_cmpR op_lt (pv 1) (pe_callB call_len_seq (by rfl) T.b_len PySem.boot_len (pa_cons (pv 0) pa_nil)) (nomark _)) (pw_and1 (pt_cmpR op_ge (pe_ix ix_list (pv 0) (pv 1) (fun _ _ => rfl)) (pe_op op_pow pe_int pe_int) (nomark _))))) (pe_op op_sub (pe_ix ix_list (pv 0) (pv 1) (fun _ _ => rfl)) (pe_op op_pow pe_int pe_int)) pe_int)) (pss_one (ps_ret (pe_disp (pps_cons pe_str (pv 4) (pps_cons pe_str (pv 2) pps_nil)) (by rfl) (by rfl) (fun z => by cases z) (by decide)))))))
theorem ok_pick (F : Fun K "_law_pick" "_law_pick" sPick f fd) (T : Txt K mg Cs) : FnOk P w K mg base CX0 1 f fd ["tape", "many"] (spPick) := by
  refine F.ok qPick (fun vs H Q E h => ?_) (fun cdv A outer s H vs Q E hr h => ⟨t_pick, PSs.nox ?_, pure_pick vs H Q E h⟩)
  · obtain ⟨_, _, rfl, _⟩ := h
    rfl
  · exact (pss_cons (ps_if (pt_cmpR op_ge (pe_dget (hu_of hr) (pv 0) pe_str (fun _ _ => rfl)) (pv 1) (nomark _)) (pss_cons (ps_set (i := 2) qPick.nd rfl (Or.inl rfl) (pe_op op_mod (pe_callTy call_int1 (by rfl) T.b_int PyProof.Rows.boot_int (pa_cons (pe_dget (hu_of hr) (pv 0) pe_str (fun _ _ => rfl)) pa_nil)) (pv 1))) (pss_cons (ps_dput (hu_of hr) (pv 0) pe_str (pe_op op_fdivN (pe_dget (hu_of hr) (pv 0) pe_str (fun _ _ => rfl)) (pv 1)) rfl) (pss_one (ps_ret (pv 2))))) pss_nil) (pss_cons (ps_dput (hu_of hr) (pv 0) pe_str (pe_op op_mod (pe_callTy call_int1 (by rfl) T.b_int PyProof.Rows.boot_int (pa_cons (pe_op op_add (pe_op op_mul (pe_dget (hu_of hr) (pv 0) pe_str (fun _ _ => rfl)) pe_int) pe_int) pa_nil)) pe_int) rfl) (pss_cons (ps_set (i := 3) qPick.nd rfl (Or.inl rfl) (pe_op op_mod (pe_callTy call_int1 (by rfl) T.b_int PyProof.Rows.boot_int (pa_cons (pe_op op_pow (pe_dget (hu_of hr) (pv 0) pe_str (fun _ _ => rfl)) pe_int) pa_nil)) pe_int)) (pss_one (ps_ret (pe_op op_mod (pe_callTy call_int1 (by rfl) T.b_int PyProof.Rows.boot_int (pa_cons (pe_op op_fdivN (pe_op op_mod (pe_callTy call_int1 (by rfl) T.b_int PyProof.Rows.boot_int (pa_cons (pe_op op_pow (pv 3) pe_int) pa_nil)) pe_int) pe_int) pa_nil)) (pv 1)))))))
theorem ok_one (F : Fun K "_law_one_of" "_law_one_of" sOne f fd) (T : Txt K mg Cs) (GP : DefOk P w K mg base 1 "_law_pick" ["tape", "many"] (spPick)) : FnOk P w K mg base CX0 2 f fd ["tape", "things"] (spOne K) := by
  refine F.ok qOne (fun vs H Q E h => ?_) (fun cdv A outer s H vs Q E hr h => ⟨t_one K, PSs.nox ?_, pure_one vs H Q E h⟩)
  · obtain ⟨_, _, _, rfl, _⟩ := h
    rfl
  · exact (pss_one (ps_ret (pe_ix ix_list (pv 1) (pe_d GP (hr.mono (by decide)) rfl (pa_cons (pv 0) (pa_cons (pe_callB call_len_seq (by rfl) T.b_len PySem.boot_len (pa_cons (pv 1) pa_nil)) pa_nil))) (fun _ _ => rfl))))
theorem ok_shuf (F : Fun K "_law_shuffled" "_law_shuffled" sShuf f fd) (T : Txt K mg Cs) (GP : DefOk P w K mg base 1 "_law_pick" ["tape", "many"] (spPick)) : FnOk P w K mg base CX0 2 f fd ["tape", "things"] (spShuf K) := by
  refine F.ok qShuf (fun vs H Q E h => ?_) (fun cdv A outer s H vs Q E hr h => ⟨t_shuf K, PSs.nox ?_, pure_shuf vs H Q E h⟩)
  · obtain ⟨_, _, _, rfl, _⟩ := h
    rfl
  · exact (pss_cons (ps_par (i := 2) (j := 3) rfl qShuf.nd rfl rfl (by decide) rfl rfl (pa_cons (pe_callTy call_list_of (by rfl) T.b_list PyProof.Rows.Boot.«list» (pa_cons (pv 1) pa_nil)) (pa_cons (pe_lst pa_nil) pa_nil)) (by rfl)) (pss_cons (ps_while PassesOwn.never (pt_cmpR (op_neD hr.units) (pv 2) (pe_lst pa_nil) (nomark _)) (pss_one (ps_expr (pe_bm PySem.F.plainAttrs_list PySem.F.slot_list_append PySem.F.type_list_append mt_append (pv 3) (pa_cons (pe_bm PySem.F.plainAttrs_list PySem.F.slot_list_pop PySem.F.type_list_pop mt_popAt (pv 2) (pa_cons (pe_d GP (hr.mono (by decide)) rfl (pa_cons (pv 0) (pa_cons (pe_callB call_len_seq (by rfl) T.b_len PySem.boot_len (pa_cons (pv 2) pa_nil)) pa_nil))) pa_nil)) pa_nil))))) (pss_one (ps_ret (pv 3)))))
theorem ok_grid (F : Fun K "_law_grid" "_law_grid" sGrid f fd) (T : Txt K mg Cs) : FnOk P w K mg base CX0 1 f fd ["many", "wide"] (spGrid K) := by
  refine F.ok qGrid (fun vs H Q E h => ?_) (fun cdv A outer s H vs Q E hr h => ⟨t_grid, PSs.nox ?_, pure_grid vs H Q E h⟩)
  · obtain ⟨_, _, rfl, _⟩ := h
    rfl
  · exact (pss_cons (ps_set (i := 2) qGrid.nd rfl (Or.inl rfl) (pe_lst pa_nil)) (pss_cons (ps_for PassesOwn.never rfl (pi_range1 rfl T.b_range (pa_cons (pv 0) pa_nil)) (pg_name (i := 3) qGrid.nd rfl (Or.inr rfl)) (pss_one (ps_set (i := 2) qGrid.nd rfl (Or.inl rfl) (pe_op op_cat (pv 2) (pe_lc (own := [("row", 4)]) rfl qGrid.nd (pi_range1 rfl T.b_range (pa_cons (pv 1) pa_nil)) (blkOk_by (N := NGrid5) (sc := defScope sGrid) (by decide +kernel)) (fun _ _ _ _ _ => (pg_name (i := 4) qGrid.nd rfl (Or.inl rfl))) (fun _ _ _ _ _ => pts_nil) (fun _ _ _ _ _ => (pe_tup (pa_cons (pv 3) (pa_cons (pv 4) pa_nil))))))))) (pss_one (ps_ret (pv 2)))))
theorem ok_known (F : Fun K "_law_known_plans" "_law_known_plans" sKnown f fd) (T : Txt K mg Cs) (GG : DefOk P w K mg base 1 "_law_grid" ["many", "wide"] (spGrid K)) : FnOk P w K mg base CX0 2 f fd [] (spKnown K) := by
  refine F.ok qKnown (fun vs H Q E h => ?_) (fun cdv A outer s H vs Q E hr h => ⟨t_known K, PSs.nox ?_, pure_known vs H Q E h⟩)
  · obtain ⟨rfl, _⟩ := h
    rfl
  · exact (pss_cons (ps_set (i := 0) qKnown.nd rfl (Or.inl rfl) (pe_lst (pa_cons (pe_tup (pa_cons pe_int (pa_cons (pe_tup pa_nil) (pa_cons (pe_tup (pa_cons (pe_tup (pa_cons pe_int (pa_cons pe_int pa_nil))) pa_nil)) pa_nil)))) (pa_cons (pe_tup (pa_cons pe_int (pa_cons (pe_tup pa_nil) (pa_cons (pe_tup pa_nil) pa_nil)))) (pa_cons (pe_tup (pa_cons pe_int (pa_cons (pe_tup (pa_cons (pe_tup (pa_cons pe_int (pa_cons pe_int pa_nil))) pa_nil)) (pa_cons (pe_tup (pa_cons (pe_tup (pa_cons pe_int (pa_cons pe_int pa_nil))) (pa_cons (pe_tup (pa_cons pe_int (pa_cons pe_int pa_nil))) pa_nil))) pa_nil)))) (pa_cons (pe_tup (pa_cons pe_int (pa_cons (pe_tup pa_nil) (pa_cons (pe_tup (pa_cons (pe_tup (pa_cons pe_int (pa_cons pe_int pa_nil))) (pa_cons (pe_tup (pa_cons pe_int (pa_cons pe_int pa_nil))) pa_nil))) pa_nil)))) pa_nil)))))) (pss_cons (ps_set (i := 0) qKnown.nd rfl (Or.inl rfl) (pe_op op_cat (pv 0) (pe_lst (pa_cons (pe_tup (pa_cons pe_int (pa_cons (pe_tup (pa_cons (pe_tup (pa_cons pe_int (pa_cons pe_int pa_nil))) pa_nil)) (pa_cons (pe_tup (pa_cons (pe_tup (pa_cons pe_int (pa_cons pe_int pa_nil))) (pa_cons (pe_tup (pa_cons pe_int (pa_cons pe_int pa_nil))) (pa_cons (pe_tup (pa_cons pe_int (pa_cons pe_int pa_nil))) (pa_cons (pe_tup (pa_cons pe_int (pa_cons pe_int pa_nil))) pa_nil))))) pa_nil)))) (pa_cons (pe_tup (pa_cons pe_int (pa_cons (pe_tup pa_nil) (pa_cons (pe_tup (pa_cons (pe_tup (pa_cons pe_int (pa_cons pe_int pa_nil))) (pa_cons (pe_tup (pa_cons pe_int (pa_cons pe_int pa_nil))) pa_nil))) pa_nil)))) (pa_cons (pe_tup (pa_cons pe_int (pa_cons (pe_tup (pa_cons (pe_tup (pa_cons pe_int (pa_cons pe_int pa_nil))) pa_nil)) (pa_cons (pe_tup (pa_cons (pe_tup (pa_cons pe_int (pa_cons pe_int pa_nil))) pa_nil)) pa_nil)))) pa_nil)))))) (pss_cons (ps_set (i := 0) qKnown.nd rfl (Or.inl rfl) (pe_op op_cat (pv 0) (pe_lst (pa_cons (pe_tup (pa_cons pe_int (pa_cons (pe_tup (pa_cons (pe_tup (pa_cons pe_int (pa_cons pe_int pa_nil))) (pa_cons (pe_tup (pa_cons pe_int (pa_cons pe_int pa_nil))) pa_nil))) (pa_cons (pe_tup (pa_cons (pe_tup (pa_cons pe_int (pa_cons pe_int pa_nil))) (pa_cons (pe_tup (pa_cons pe_int (pa_cons pe_int pa_nil))) (pa_cons (pe_tup (pa_cons pe_int (pa_cons pe_int pa_nil))) pa_nil)))) pa_nil)))) (pa_cons (pe_tup (pa_cons pe_int (pa_cons (pe_tup pa_nil) (pa_cons (pe_tup (pa_cons (pe_tup (pa_cons pe_int (pa_cons pe_int pa_nil))) (pa_cons (pe_tup (pa_cons pe_int (pa_cons pe_int pa_nil))) (pa_cons (pe_tup (pa_cons pe_int (pa_cons pe_int pa_nil))) pa_nil)))) pa_nil)))) pa_nil))))) (pss_cons (ps_expr (pe_bm PySem.F.plainAttrs_list PySem.F.slot_list_append PySem.F.type_list_append mt_append (pv 0) (pa_cons (pe_tup (pa_cons pe_int (pa_cons (pe_tup (pa_cons (pe_tup (pa_cons pe_int (pa_cons pe_int pa_nil))) (pa_cons (pe_tup (pa_cons pe_int (pa_cons pe_int pa_nil))) (pa_cons (pe_tup (pa_cons pe_int (pa_cons pe_int pa_nil))) pa_nil)))) (pa_cons (pe_callTy call_tuple_of (by rfl) T.b_tuple PyProof.Rows.Boot.«tuple» (pa_cons (pe_d GG (hr.mono (by decide)) rfl (pa_cons pe_int (pa_cons pe_int pa_nil))) pa_nil)) pa_nil)))) pa_nil))) (pss_one (ps_ret (pe_op op_cat (pv 0) (pe_lst (pa_cons (pe_tup (pa_cons pe_int (pa_cons (pe_tup (pa_cons (pe_tup (pa_cons pe_int (pa_cons pe_int pa_nil))) (pa_cons (pe_tup (pa_cons pe_int (pa_cons pe_int pa_nil))) (pa_cons (pe_tup (pa_cons pe_int (pa_cons pe_int pa_nil))) pa_nil)))) (pa_cons (pe_tup (pa_cons (pe_tup (pa_cons pe_int (pa_cons pe_int pa_nil))) (pa_cons (pe_tup (pa_cons pe_int (pa_cons pe_int pa_nil))) (pa_cons (pe_tup (pa_cons pe_int (pa_cons pe_int pa_nil))) pa_nil)))) pa_nil)))) pa_nil)))))))))
theorem ok_drawn (F : Fun K "_law_drawn_plan" "_law_drawn_plan" sDrawn f fd) (T : Txt K mg Cs) (GP : DefOk P w K mg base 1 "_law_pick" ["tape", "many"] (spPick)) (GO : DefOk P w K mg base 2 "_law_one_of" ["tape", "things"] (spOne K)) (GG : DefOk P w K mg base 1 "_law_grid" ["many", "wide"] (spGrid K)) (GK : DefOk P w K mg base 2 "_law_known_plans" [] (spKnown K)) : FnOk P w K mg base CX0 3 f fd ["tape", "most"] (spDrawn K) := by
  refine F.ok qDrawn (fun vs H Q E h => ?_) (fun cdv A outer s H vs Q E hr h => ⟨t_drawn K, PSs.nox ?_, pure_drawn vs H Q E h⟩)
  · obtain ⟨_, _, rfl, _⟩ := h
    rfl
  · exact (pss_cons (ps_setLc (i := 2) (own := [("plan", 6)]) rfl qDrawn.nd rfl rfl (sw_true rfl rfl rfl (by decide +kernel)) (pi_list (pe_d0 GK (hr.mono (by decide)) rfl)) (blkOk_by (N := NDrawn) (sc := defScope sDrawn) (by decide +kernel)) (fun _ _ _ _ _ => (pg_name (i := 6) qDrawn.nd rfl (Or.inl rfl))) (fun _ _ _ _ _ => (pts_one (pt_cmpR op_le (pe_ix ix_tup (pv 6) pe_int (fun _ _ => rfl)) (pv 1) (nomark _)))) (fun _ _ _ _ _ => (pv 6))) (pss_cons (ps_if (pt_cmpR op_gt (pe_d GP (hr.mono (by decide)) rfl (pa_cons (pv 0) (pa_cons pe_int pa_nil))) pe_int (nomark _)) (pss_one (ps_ret (pe_d GO (hr.mono (by decide)) rfl (pa_cons (pv 0) (pa_cons (pv 2) pa_nil))))) pss_nil) (pss_cons (ps_set (i := 3) qDrawn.nd rfl (Or.inl rfl) (pe_op op_add pe_int (pe_d GP (hr.mono (by decide)) rfl (pa_cons (pv 0) (pa_cons (pv 1) pa_nil))))) (pss_cons (ps_setLc (i := 4) (own := [("pair", 7)]) rfl qDrawn.nd rfl rfl (sw_true rfl rfl rfl (by decide +kernel)) (pi_list (pe_d GG (hr.mono (by decide)) rfl (pa_cons (pv 3) (pa_cons (pv 3) pa_nil)))) (blkOk_by (N := NDrawn) (sc := defScope sDrawn) (by decide +kernel)) (fun _ _ _ _ _ => (pg_name (i := 7) qDrawn.nd rfl (Or.inl rfl))) (fun _ _ _ _ _ => (pts_one (pt_cmpR op_eq (pe_d GP (hr.mono (by decide)) rfl (pa_cons (pv 0) (pa_cons pe_int pa_nil))) pe_int (nomark _)))) (fun _ _ _ _ _ => (pv 7))) (pss_cons (ps_setLc (i := 5) (own := [("pair", 7)]) rfl qDrawn.nd rfl rfl (sw_true rfl rfl rfl (by decide +kernel)) (pi_list (pe_d GG (hr.mono (by decide)) rfl (pa_cons (pv 3) (pa_cons (pv 3) pa_nil)))) (blkOk_by (N := NDrawn) (sc := defScope sDrawn) (by decide +kernel)) (fun _ _ _ _ _ => (pg_name (i := 7) qDrawn.nd rfl (Or.inl rfl))) (fun _ _ _ _ _ => (pts_one (pt_cmpR op_lt (pe_ix ix_tup (pv 7) pe_int (fun _ _ => rfl)) (pe_ix ix_tup (pv 7) pe_int (fun _ _ => rfl)) (nomark _)))) (fun _ _ _ _ _ => (pv 7))) (pss_one (ps_ret (pe_tup (pa_cons (pv 3) (pa_cons (pe_callTy call_tuple_of (by rfl) T.b_tuple PyProof.Rows.Boot.«tuple» (pa_cons (pe_lc (own := [("pair", 7)]) rfl qDrawn.nd (pi_list (pv 5)) (blkOk_by (N := NDrawn) (sc := defScope sDrawn) (by decide +kernel)) (fun _ _ _ _ _ => (pg_name (i := 7) qDrawn.nd rfl (Or.inl rfl))) (fun _ _ _ _ _ => (pts_one (pt_cmpR op_eq (pe_d GP (hr.mono (by decide)) rfl (pa_cons (pv 0) (pa_cons pe_int pa_nil))) pe_int (nomark _)))) (fun _ _ _ _ _ => (pv 7))) pa_nil)) (pa_cons (pe_callTy call_tuple_of (by rfl) T.b_tuple PyProof.Rows.Boot.«tuple» (pa_cons (pv 4) pa_nil)) pa_nil)))))))))))
theorem ok_made (F : Fun K "_law_made_frame" "_law_made_frame" sMade f fd) (T : Txt K mg Cs) (FO : FrOk P w K mg base Cs.F) : FnOk P w K mg base CX0 8 f fd ["plan"] (spMade K Cs.F) := by
  refine F.ok qMade (fun vs H Q E h => ?_) (fun cdv A outer s H vs Q E hr h => ⟨t_made K Cs.F J.gApp, PSs.nox ?_, pure_made (fun _ _ _ _ => rfl) vs H Q E h⟩)
  · obtain ⟨_, _, rfl, _⟩ := h
    rfl
  · exact (pss_one (ps_ret (pe_fA FO T.frame (hr.mono (by decide)) rfl (pa_cons (pe_ix ix_tup (pv 0) pe_int (fun _ _ => rfl)) pa_nil) (pk_cons (pe_ix ix_tup (pv 0) pe_int (fun _ _ => rfl)) (pk_cons (pe_ix ix_tup (pv 0) pe_int (fun _ _ => rfl)) pk_nil)))))
theorem ok_un (F : Fun K "_law_unlike" "_law_unlike" sUn f fd) (T : Txt K mg Cs) : FnOk P w K mg base CX0 1 f fd ["things"] (J.spW (J.pUn K)) := by
  refine F.ok qUn (fun vs H Q E h => ?_) (fun cdv A outer s H vs Q E hr h => ⟨J.t_unlike K Cs, PSs.nox ?_, J.pure_unlike vs H Q E h⟩)
  · exact len_W (fun As Φ h => by first | (obtain ⟨rfl, _⟩ := h; rfl) | (obtain ⟨_, rfl, _⟩ := h; rfl) | (obtain ⟨_, _, rfl, _⟩ := h; rfl) | (obtain ⟨_, _, _, rfl, _⟩ := h; rfl) | (obtain ⟨_, _, _, _, rfl, _⟩ := h; rfl) | (obtain ⟨_, _, _, _, _, rfl, _⟩ := h; rfl) | (obtain ⟨_, _, _, _, _, _, rfl, _⟩ := h; rfl) | (obtain ⟨_, _, _, _, _, _, _, rfl, _⟩ := h; rfl) | (obtain ⟨_, _, _, _, _, _, _, _, rfl, _⟩ := h; rfl) | (obtain ⟨_, _, _, _, _, _, _, _, _, rfl, _⟩ := h; rfl) | (obtain ⟨_, _, _, _, _, _, _, _, _, _, rfl, _⟩ := h; rfl) | (obtain ⟨_, _, _, _, _, _, _, _, _, _, _, rfl, _⟩ := h; rfl) | (obtain ⟨_, _, _, _, _, _, _, _, _, _, _, _, rfl, _⟩ := h; rfl)) h
  · exact (pss_cons (ps_set (i := 1) qUn.nd rfl (Or.inl rfl) (pe_lst pa_nil)) (pss_cons (ps_for PassesOwn.never rfl (pi_list (pv 0)) (pg_name (i := 2) qUn.nd rfl (Or.inl rfl)) (pss_one (ps_if (pt_cmpR op_notIn_seq (pv 2) (pv 1) (by rfl)) (pss_one (ps_expr (pe_bm PySem.F.plainAttrs_list PySem.F.slot_list_append PySem.F.type_list_append mt_append (pv 1) (pa_cons (pv 2) pa_nil)))) pss_nil))) (pss_one (ps_ret (pv 1)))))
theorem ok_any (F : Fun K "_law_any" "_law_any" sAny f fd) (T : Txt K mg Cs) (GO : DefOk P w K mg base 2 "_law_one_of" ["tape", "things"] (spOne K)) : FnOk P w K mg base CX0 3 f fd ["tape"] (J.spW (J.pAny K)) := by
  refine F.ok qAny (fun vs H Q E h => ?_) (fun cdv A outer s H vs Q E hr h => ⟨t_any K, PSs.nox ?_, J.pure_any vs H Q E h⟩)
  · exact len_W (fun As Φ h => by first | (obtain ⟨rfl, _⟩ := h; rfl) | (obtain ⟨_, rfl, _⟩ := h; rfl) | (obtain ⟨_, _, rfl, _⟩ := h; rfl) | (obtain ⟨_, _, _, rfl, _⟩ := h; rfl) | (obtain ⟨_, _, _, _, rfl, _⟩ := h; rfl) | (obtain ⟨_, _, _, _, _, rfl, _⟩ := h; rfl) | (obtain ⟨_, _, _, _, _, _, rfl, _⟩ := h; rfl) | (obtain ⟨_, _, _, _, _, _, _, rfl, _⟩ := h; rfl) | (obtain ⟨_, _, _, _, _, _, _, _, rfl, _⟩ := h; rfl) | (obtain ⟨_, _, _, _, _, _, _, _, _, rfl, _⟩ := h; rfl) | (obtain ⟨_, _, _, _, _, _, _, _, _, _, rfl, _⟩ := h; rfl) | (obtain ⟨_, _, _, _, _, _, _, _, _, _, _, rfl, _⟩ := h; rfl) | (obtain ⟨_, _, _, _, _, _, _, _, _, _, _, _, rfl, _⟩ := h; rfl)) h
  · exact (pss_cons (ps_set (i := 1) qAny.nd rfl (Or.inl rfl) (pe_lst (pa_cons pe_non (pa_cons pe_bl (pa_cons pe_bl (pa_cons pe_int (pa_cons pe_int (pa_cons pe_int (pa_cons pe_int (pa_cons pe_int (pa_cons pe_int (pa_cons pe_int (pa_cons (pe_op op_sub pe_int pe_int) (pa_cons (pe_op op_pow pe_int pe_int) (pa_cons pe_str (pa_cons pe_str (pa_cons pe_str (pa_cons pe_str (pa_cons pe_str (pa_cons pe_str (pa_cons pe_str pa_nil))))))))))))))))))))) (pss_cons (ps_set (i := 1) qAny.nd rfl (Or.inl rfl) (pe_op op_cat (pv 1) (pe_lst (pa_cons (pe_tup pa_nil) (pa_cons (pe_lst pa_nil) (pa_cons pe_dnewK (pa_cons (pe_tup (pa_cons pe_int pa_nil)) (pa_cons (pe_lst (pa_cons pe_int pa_nil)) (pa_cons (pe_disp (pps_cons pe_str pe_int pps_nil) (by rfl) (by rfl) (fun z => by cases z) (by decide)) (pa_cons (pe_tup (pa_cons pe_int (pa_cons pe_int pa_nil))) (pa_cons (pe_lst (pa_cons (pe_tup (pa_cons pe_int (pa_cons pe_int pa_nil))) pa_nil)) (pa_cons (pe_tup (pa_cons (pe_tup (pa_cons pe_int (pa_cons pe_int pa_nil))) pa_nil)) (pa_cons (pe_tup (pa_cons pe_int (pa_cons pe_int pa_nil))) (pa_cons (pe_tup (pa_cons pe_int (pa_cons pe_bl pa_nil))) (pa_cons (pe_tup (pa_cons (pe_tup (pa_cons pe_int (pa_cons pe_bl pa_nil))) pa_nil)) (pa_cons (pe_lst (pa_cons (pe_tup (pa_cons (pe_tup (pa_cons pe_int (pa_cons pe_bl pa_nil))) pa_nil)) pa_nil)) pa_nil)))))))))))))))) (pss_one (ps_ret (pe_d GO (hr.mono (by decide)) rfl (pa_cons (pv 0) (pa_cons (pe_op op_cat (pv 1) (pe_lst (pa_cons (pe_tup (pa_cons pe_non pa_nil)) (pa_cons (pe_tup (pa_cons pe_int (pa_cons pe_bl pa_nil))) (pa_cons (pe_tup (pa_cons pe_int (pa_cons pe_int (pa_cons pe_int pa_nil)))) (pa_cons (pe_tup (pa_cons pe_str pa_nil)) (pa_cons (pe_tup (pa_cons pe_str (pa_cons (pe_tup (pa_cons pe_int (pa_cons pe_int pa_nil))) pa_nil))) (pa_cons (pe_disp (pps_cons pe_int pe_int pps_nil) (by rfl) (by rfl) (fun z => by cases z) (by decide)) (pa_cons (pe_lst (pa_cons pe_non pa_nil)) (pa_cons (pe_tup (pa_cons pe_int (pa_cons pe_int (pa_cons pe_int pa_nil)))) (pa_cons (pe_tup (pa_cons pe_int (pa_cons pe_bl pa_nil))) (pa_cons pe_int pa_nil)))))))))))) pa_nil)))))))
theorem ok_dc (F : Fun K "_law_drawn_cell" "_law_drawn_cell" sDC f fd) (T : Txt K mg Cs) (GP : DefOk P w K mg base 1 "_law_pick" ["tape", "many"] (spPick)) (GO : DefOk P w K mg base 2 "_law_one_of" ["tape", "things"] (spOne K)) : FnOk P w K mg base CX0 3 f fd ["tape"] (J.spW (J.pDC K)) := by
  refine F.ok qDC (fun vs H Q E h => ?_) (fun cdv A outer s H vs Q E hr h => ⟨J.t_dcell K Cs, PSs.nox ?_, J.pure_dcell vs H Q E h⟩)
  · exact len_W (fun As Φ h => by first | (obtain ⟨rfl, _⟩ := h; rfl) | (obtain ⟨_, rfl, _⟩ := h; rfl) | (obtain ⟨_, _, rfl, _⟩ := h; rfl) | (obtain ⟨_, _, _, rfl, _⟩ := h; rfl) | (obtain ⟨_, _, _, _, rfl, _⟩ := h; rfl) | (obtain ⟨_, _, _, _, _, rfl, _⟩ := h; rfl) | (obtain ⟨_, _, _, _, _, _, rfl, _⟩ := h; rfl) | (obtain ⟨_, _, _, _, _, _, _, rfl, _⟩ := h; rfl) | (obtain ⟨_, _, _, _, _, _, _, _, rfl, _⟩ := h; rfl) | (obtain ⟨_, _, _, _, _, _, _, _, _, rfl, _⟩ := h; rfl) | (obtain ⟨_, _, _, _, _, _, _, _, _, _, rfl, _⟩ := h; rfl) | (obtain ⟨_, _, _, _, _, _, _, _, _, _, _, rfl, _⟩ := h; rfl) | (obtain ⟨_, _, _, _, _, _, _, _, _, _, _, _, rfl, _⟩ := h; rfl)) h
  · exact (pss_one (ps_ret (pe_tup (pa_cons (pe_d GO (hr.mono (by decide)) rfl (pa_cons (pv 0) (pa_cons (pe_lst (pa_cons pe_int (pa_cons pe_int (pa_cons pe_int (pa_cons pe_int (pa_cons pe_int (pa_cons pe_int (pa_cons pe_int (pa_cons pe_int (pa_cons pe_int (pa_cons pe_int (pa_cons pe_int (pa_cons (pe_d GP (hr.mono (by decide)) rfl (pa_cons (pv 0) (pa_cons pe_int pa_nil))) pa_nil))))))))))))) pa_nil))) (pa_cons (pe_cmpR op_eq (pe_d GP (hr.mono (by decide)) rfl (pa_cons (pv 0) (pa_cons pe_int pa_nil))) pe_int (nomark _)) pa_nil)))))
theorem ok_pil (F : Fun K "_law_drawn_piles" "_law_drawn_piles" sPil f fd) (T : Txt K mg Cs) (GDC : DefOk P w K mg base 3 "_law_drawn_cell" ["tape"] (J.spW (J.pDC K))) : FnOk P w K mg base CX0 4 f fd ["tape", "plan", "many"] (J.spW (J.pPiles K)) := by
  refine F.ok qPil (fun vs H Q E h => ?_) (fun cdv A outer s H vs Q E hr h => ⟨J.t_piles K Cs (J.pDC K), PSs.nox ?_, J.pure_piles vs H Q E h⟩)
  · exact len_W (fun As Φ h => by first | (obtain ⟨rfl, _⟩ := h; rfl) | (obtain ⟨_, rfl, _⟩ := h; rfl) | (obtain ⟨_, _, rfl, _⟩ := h; rfl) | (obtain ⟨_, _, _, rfl, _⟩ := h; rfl) | (obtain ⟨_, _, _, _, rfl, _⟩ := h; rfl) | (obtain ⟨_, _, _, _, _, rfl, _⟩ := h; rfl) | (obtain ⟨_, _, _, _, _, _, rfl, _⟩ := h; rfl) | (obtain ⟨_, _, _, _, _, _, _, rfl, _⟩ := h; rfl) | (obtain ⟨_, _, _, _, _, _, _, _, rfl, _⟩ := h; rfl) | (obtain ⟨_, _, _, _, _, _, _, _, _, rfl, _⟩ := h; rfl) | (obtain ⟨_, _, _, _, _, _, _, _, _, _, rfl, _⟩ := h; rfl) | (obtain ⟨_, _, _, _, _, _, _, _, _, _, _, rfl, _⟩ := h; rfl) | (obtain ⟨_, _, _, _, _, _, _, _, _, _, _, _, rfl, _⟩ := h; rfl)) h
  · exact (pss_one (ps_ret (pe_lc (own := [("turn", 3)]) rfl qPil.nd (pi_range1 rfl T.b_range (pa_cons (pv 2) pa_nil)) (blkOk_by (N := J.N_piles) (sc := defScope sPil) (by decide +kernel)) (fun _ _ _ _ _ => (pg_name (i := 3) qPil.nd rfl (Or.inl rfl))) (fun _ _ _ _ _ => pts_nil) (fun _ _ _ _ _ => (pe_callTy call_tuple_of (by rfl) T.b_tuple PyProof.Rows.Boot.«tuple» (pa_cons (pe_lc (own := [("row", 4)]) rfl qPil.nd (pi_range1 rfl T.b_range (pa_cons (pe_ix ix_tup (pv 1) pe_int (fun _ _ => rfl)) pa_nil)) (blkOk_by (N := J.N_piles) (sc := relS (lcScope (retOf ((defBody sPil).getD 0 (.Pass ⟨0, 0, 0, 0⟩)))) (defScope sPil)) (by decide +kernel)) (fun _ _ _ _ _ => (pg_name (i := 4) qPil.nd rfl (Or.inl rfl))) (fun _ _ _ _ _ => pts_nil) (fun _ _ _ _ _ => (pe_d GDC (hr.mono (by decide)) rfl (pa_cons (pv 0) pa_nil)))) pa_nil))))))
theorem ok_net (F : Fun K "_law_drawn_net" "_law_drawn_net" sNet f fd) (T : Txt K mg Cs) (GP : DefOk P w K mg base 1 "_law_pick" ["tape", "many"] (spPick)) (GD : DefOk P w K mg base 3 "_law_drawn_plan" ["tape", "most"] (spDrawn K)) (GDP : DefOk P w K mg base 4 "_law_drawn_piles" ["tape", "plan", "many"] (J.spW (J.pPiles K))) : FnOk P w K mg base CX0 5 f fd ["tape", "most", "many"] (J.spW (J.pNet K)) := by
  refine F.ok qNet (fun vs H Q E h => ?_) (fun cdv A outer s H vs Q E hr h => ⟨J.t_net K Cs (J.pPiles K), PSs.nox ?_, J.pure_net vs H Q E h⟩)
  · exact len_W (fun As Φ h => by first | (obtain ⟨rfl, _⟩ := h; rfl) | (obtain ⟨_, rfl, _⟩ := h; rfl) | (obtain ⟨_, _, rfl, _⟩ := h; rfl) | (obtain ⟨_, _, _, rfl, _⟩ := h; rfl) | (obtain ⟨_, _, _, _, rfl, _⟩ := h; rfl) | (obtain ⟨_, _, _, _, _, rfl, _⟩ := h; rfl) | (obtain ⟨_, _, _, _, _, _, rfl, _⟩ := h; rfl) | (obtain ⟨_, _, _, _, _, _, _, rfl, _⟩ := h; rfl) | (obtain ⟨_, _, _, _, _, _, _, _, rfl, _⟩ := h; rfl) | (obtain ⟨_, _, _, _, _, _, _, _, _, rfl, _⟩ := h; rfl) | (obtain ⟨_, _, _, _, _, _, _, _, _, _, rfl, _⟩ := h; rfl) | (obtain ⟨_, _, _, _, _, _, _, _, _, _, _, rfl, _⟩ := h; rfl) | (obtain ⟨_, _, _, _, _, _, _, _, _, _, _, _, rfl, _⟩ := h; rfl)) h
  · exact (pss_cons (ps_par (i := 3) (j := 4) rfl qNet.nd rfl rfl (by decide) rfl rfl (pa_cons (pe_d GD (hr.mono (by decide)) rfl (pa_cons (pv 0) (pa_cons (pv 1) pa_nil))) (pa_cons (pe_cmpR op_eq (pe_d GP (hr.mono (by decide)) rfl (pa_cons (pv 0) (pa_cons pe_int pa_nil))) pe_int (nomark _)) pa_nil)) (by rfl)) (pss_cons (ps_set (i := 5) qNet.nd rfl (Or.inl rfl) (pe_ifExp (pt_val (pv 4)) (pe_op op_add pe_int (pe_d GP (hr.mono (by decide)) rfl (pa_cons (pv 0) (pa_cons (pe_callB (call_max2 rfl) (by rfl) T.b_max PyProof.Rows.boot_max (pa_cons pe_int (pa_cons (pe_op op_sub (pv 2) pe_int) pa_nil))) pa_nil)))) (pe_op op_add pe_int (pe_d GP (hr.mono (by decide)) rfl (pa_cons (pv 0) (pa_cons (pv 2) pa_nil)))))) (pss_one (ps_ret (pe_lst (pa_cons (pv 3) (pa_cons (pe_d GDP (hr.mono (by decide)) rfl (pa_cons (pv 0) (pa_cons (pv 3) (pa_cons (pv 5) pa_nil)))) (pa_cons (pv 4) pa_nil))))))))
theorem ok_mb (F : Fun K "_law_made_band" "_law_made_band" sMB f fd) (T : Txt K mg Cs) (GM : DefOk P w K mg base 8 "_law_made_frame" ["plan"] (spMade K Cs.F)) (SO : StOk P w K mg base Cs) : FnOk P w K mg base CX0 9 f fd ["plan", "piles"] (J.spW (J.pMB K Cs)) := by
  refine F.ok qMB (fun vs H Q E h => ?_) (fun cdv A outer s H vs Q E hr h => ⟨J.t_mband K Cs (J.pStr K Cs), PSs.nox ?_, J.pure_mband vs H Q E h⟩)
  · exact len_W (fun As Φ h => by first | (obtain ⟨rfl, _⟩ := h; rfl) | (obtain ⟨_, rfl, _⟩ := h; rfl) | (obtain ⟨_, _, rfl, _⟩ := h; rfl) | (obtain ⟨_, _, _, rfl, _⟩ := h; rfl) | (obtain ⟨_, _, _, _, rfl, _⟩ := h; rfl) | (obtain ⟨_, _, _, _, _, rfl, _⟩ := h; rfl) | (obtain ⟨_, _, _, _, _, _, rfl, _⟩ := h; rfl) | (obtain ⟨_, _, _, _, _, _, _, rfl, _⟩ := h; rfl) | (obtain ⟨_, _, _, _, _, _, _, _, rfl, _⟩ := h; rfl) | (obtain ⟨_, _, _, _, _, _, _, _, _, rfl, _⟩ := h; rfl) | (obtain ⟨_, _, _, _, _, _, _, _, _, _, rfl, _⟩ := h; rfl) | (obtain ⟨_, _, _, _, _, _, _, _, _, _, _, rfl, _⟩ := h; rfl) | (obtain ⟨_, _, _, _, _, _, _, _, _, _, _, _, rfl, _⟩ := h; rfl)) h
  · exact (pss_one (ps_ret (pe_st SO T.stretch (hr.mono (by decide)) rfl (pa_cons (pe_d GM (hr.mono (by decide)) rfl (pa_cons (pv 0) pa_nil)) (pa_cons (pv 1) pa_nil)))))
theorem ok_mw (F : Fun K "_law_made_web" "_law_made_web" sMW f fd) (T : Txt K mg Cs) (GMB : DefOk P w K mg base 9 "_law_made_band" ["plan", "piles"] (J.spW (J.pMB K Cs))) (WO : WbOk P w K mg base Cs) : FnOk P w K mg base CX0 10 f fd ["net"] (J.spW (J.pMW K Cs)) := by
  refine F.ok qMW (fun vs H Q E h => ?_) (fun cdv A outer s H vs Q E hr h => ⟨J.t_mweb K Cs (J.pMB K Cs) (J.pWeb K Cs) J.gApp, PSs.nox ?_, J.pure_mweb vs H Q E h⟩)
  · exact len_W (fun As Φ h => by first | (obtain ⟨rfl, _⟩ := h; rfl) | (obtain ⟨_, rfl, _⟩ := h; rfl) | (obtain ⟨_, _, rfl, _⟩ := h; rfl) | (obtain ⟨_, _, _, rfl, _⟩ := h; rfl) | (obtain ⟨_, _, _, _, rfl, _⟩ := h; rfl) | (obtain ⟨_, _, _, _, _, rfl, _⟩ := h; rfl) | (obtain ⟨_, _, _, _, _, _, rfl, _⟩ := h; rfl) | (obtain ⟨_, _, _, _, _, _, _, rfl, _⟩ := h; rfl) | (obtain ⟨_, _, _, _, _, _, _, _, rfl, _⟩ := h; rfl) | (obtain ⟨_, _, _, _, _, _, _, _, _, rfl, _⟩ := h; rfl) | (obtain ⟨_, _, _, _, _, _, _, _, _, _, rfl, _⟩ := h; rfl) | (obtain ⟨_, _, _, _, _, _, _, _, _, _, _, rfl, _⟩ := h; rfl) | (obtain ⟨_, _, _, _, _, _, _, _, _, _, _, _, rfl, _⟩ := h; rfl)) h
  · exact (pss_one (ps_ret (pe_wA WO T.web (hr.mono (by decide)) rfl (pa_cons (pe_d GMB (hr.mono (by decide)) rfl (pa_cons (pe_ix ix_list (pv 0) pe_int (fun _ _ => rfl)) (pa_cons (pe_ix ix_list (pv 0) pe_int (fun _ _ => rfl)) pa_nil))) pa_nil) (pk_cons (pe_ix ix_list (pv 0) pe_int (fun _ _ => rfl)) pk_nil))))
theorem ok_gr2 (F : Fun K "_law_grid" "_law_grid" sGr2 f fd) (T : Txt K mg Cs) : FnOk P w K mg base CX0 1 f fd ["many", "wide"] (J.spW (J.pGrid K)) := by
  refine F.ok qGr2 (fun vs H Q E h => ?_) (fun cdv A outer s H vs Q E hr h => ⟨J.t_grid K Cs, PSs.nox ?_, J.pure_grid vs H Q E h⟩)
  · exact len_W (fun As Φ h => by first | (obtain ⟨rfl, _⟩ := h; rfl) | (obtain ⟨_, rfl, _⟩ := h; rfl) | (obtain ⟨_, _, rfl, _⟩ := h; rfl) | (obtain ⟨_, _, _, rfl, _⟩ := h; rfl) | (obtain ⟨_, _, _, _, rfl, _⟩ := h; rfl) | (obtain ⟨_, _, _, _, _, rfl, _⟩ := h; rfl) | (obtain ⟨_, _, _, _, _, _, rfl, _⟩ := h; rfl) | (obtain ⟨_, _, _, _, _, _, _, rfl, _⟩ := h; rfl) | (obtain ⟨_, _, _, _, _, _, _, _, rfl, _⟩ := h; rfl) | (obtain ⟨_, _, _, _, _, _, _, _, _, rfl, _⟩ := h; rfl) | (obtain ⟨_, _, _, _, _, _, _, _, _, _, rfl, _⟩ := h; rfl) | (obtain ⟨_, _, _, _, _, _, _, _, _, _, _, rfl, _⟩ := h; rfl) | (obtain ⟨_, _, _, _, _, _, _, _, _, _, _, _, rfl, _⟩ := h; rfl)) h
  · exact (pss_cons (ps_set (i := 2) qGr2.nd rfl (Or.inl rfl) (pe_lst pa_nil)) (pss_cons (ps_for PassesOwn.never rfl (pi_range1 rfl T.b_range (pa_cons (pv 0) pa_nil)) (pg_name (i := 3) qGr2.nd rfl (Or.inr rfl)) (pss_one (ps_set (i := 2) qGr2.nd rfl (Or.inl rfl) (pe_op op_cat (pv 2) (pe_lc (own := [("row", 4)]) rfl qGr2.nd (pi_range1 rfl T.b_range (pa_cons (pv 1) pa_nil)) (blkOk_by (N := J.N_grid) (sc := defScope sGr2) (by decide +kernel)) (fun _ _ _ _ _ => (pg_name (i := 4) qGr2.nd rfl (Or.inl rfl))) (fun _ _ _ _ _ => pts_nil) (fun _ _ _ _ _ => (pe_tup (pa_cons (pv 3) (pa_cons (pv 4) pa_nil))))))))) (pss_one (ps_ret (pv 2)))))
theorem ok_sp (F : Fun K "_law_spots" "_law_spots" sSp f fd) (T : Txt K mg Cs) (GG2 : DefOk P w K mg base 1 "_law_grid" ["many", "wide"] (J.spW (J.pGrid K))) : FnOk P w K mg base CX0 2 f fd ["net"] (J.spW (J.pSpots K)) := by
  refine F.ok qSp (fun vs H Q E h => ?_) (fun cdv A outer s H vs Q E hr h => ⟨J.t_spots K Cs (J.pGrid K), PSs.nox ?_, J.pure_spots vs H Q E h⟩)
  · exact len_W (fun As Φ h => by first | (obtain ⟨rfl, _⟩ := h; rfl) | (obtain ⟨_, rfl, _⟩ := h; rfl) | (obtain ⟨_, _, rfl, _⟩ := h; rfl) | (obtain ⟨_, _, _, rfl, _⟩ := h; rfl) | (obtain ⟨_, _, _, _, rfl, _⟩ := h; rfl) | (obtain ⟨_, _, _, _, _, rfl, _⟩ := h; rfl) | (obtain ⟨_, _, _, _, _, _, rfl, _⟩ := h; rfl) | (obtain ⟨_, _, _, _, _, _, _, rfl, _⟩ := h; rfl) | (obtain ⟨_, _, _, _, _, _, _, _, rfl, _⟩ := h; rfl) | (obtain ⟨_, _, _, _, _, _, _, _, _, rfl, _⟩ := h; rfl) | (obtain ⟨_, _, _, _, _, _, _, _, _, _, rfl, _⟩ := h; rfl) | (obtain ⟨_, _, _, _, _, _, _, _, _, _, _, rfl, _⟩ := h; rfl) | (obtain ⟨_, _, _, _, _, _, _, _, _, _, _, _, rfl, _⟩ := h; rfl)) h
  · exact (pss_one (ps_ret (pe_d GG2 (hr.mono (by decide)) rfl (pa_cons (pe_callB call_len_seq (by rfl) T.b_len PySem.boot_len (pa_cons (pe_ix ix_list (pv 0) pe_int (fun _ _ => rfl)) pa_nil)) (pa_cons (pe_ix ix_tup (pe_ix ix_list (pv 0) pe_int (fun _ _ => rfl)) pe_int (fun _ _ => rfl)) pa_nil)))))
theorem ok_clo (F : Fun K "_law_close" "_law_close" sClo f fd) (T : Txt K mg Cs) : FnOk P w K mg base CX0 1 f fd ["net", "spot"] (J.spW (J.pClose K)) := by
  refine F.ok qClo (fun vs H Q E h => ?_) (fun cdv A outer s H vs Q E hr h => ⟨J.t_close K Cs, PSs.nox ?_, J.pure_close vs H Q E h⟩)
  · exact len_W (fun As Φ h => by first | (obtain ⟨rfl, _⟩ := h; rfl) | (obtain ⟨_, rfl, _⟩ := h; rfl) | (obtain ⟨_, _, rfl, _⟩ := h; rfl) | (obtain ⟨_, _, _, rfl, _⟩ := h; rfl) | (obtain ⟨_, _, _, _, rfl, _⟩ := h; rfl) | (obtain ⟨_, _, _, _, _, rfl, _⟩ := h; rfl) | (obtain ⟨_, _, _, _, _, _, rfl, _⟩ := h; rfl) | (obtain ⟨_, _, _, _, _, _, _, rfl, _⟩ := h; rfl) | (obtain ⟨_, _, _, _, _, _, _, _, rfl, _⟩ := h; rfl) | (obtain ⟨_, _, _, _, _, _, _, _, _, rfl, _⟩ := h; rfl) | (obtain ⟨_, _, _, _, _, _, _, _, _, _, rfl, _⟩ := h; rfl) | (obtain ⟨_, _, _, _, _, _, _, _, _, _, _, rfl, _⟩ := h; rfl) | (obtain ⟨_, _, _, _, _, _, _, _, _, _, _, _, rfl, _⟩ := h; rfl)) h
  · exact (pss_cons (ps_asg (pv 0) (pg_lst rfl (pgs_cons (pg_tup rfl (pgs_cons (pg_name (i := 2) qClo.nd rfl (Or.inl rfl)) (pgs_cons (pg_name (i := 3) qClo.nd rfl (Or.inl rfl)) (pgs_cons (pg_name (i := 4) qClo.nd rfl (Or.inl rfl)) pgs_nil)))) (pgs_cons (pg_name (i := 5) qClo.nd rfl (Or.inr rfl)) (pgs_cons (pg_name (i := 6) qClo.nd rfl (Or.inl rfl)) pgs_nil))))) (pss_cons (ps_asg (pv 1) (pg_tup rfl (pgs_cons (pg_name (i := 7) qClo.nd rfl (Or.inr rfl)) (pgs_cons (pg_name (i := 8) qClo.nd rfl (Or.inr rfl)) pgs_nil)))) (pss_cons (ps_set (i := 9) qClo.nd rfl (Or.inl rfl) (pe_op op_cat (pe_lc (own := [("a", 10), ("b", 11)]) rfl qClo.nd (pi_tup (pv 3)) (blkOk_by (N := J.N_close) (sc := defScope sClo) (by decide +kernel)) (fun _ _ _ _ _ => (pg_tup rfl (pgs_cons (pg_name (i := 10) qClo.nd rfl (Or.inl rfl)) (pgs_cons (pg_name (i := 11) qClo.nd rfl (Or.inl rfl)) pgs_nil)))) (fun _ _ _ _ _ => (pts_one (pt_cmpR op_eq (pv 10) (pv 8) (nomark _)))) (fun _ _ _ _ _ => (pe_tup (pa_cons (pv 7) (pa_cons (pv 11) pa_nil))))) (pe_lc (own := [("a", 10), ("b", 11)]) rfl qClo.nd (pi_tup (pv 3)) (blkOk_by (N := J.N_close) (sc := defScope sClo) (by decide +kernel)) (fun _ _ _ _ _ => (pg_tup rfl (pgs_cons (pg_name (i := 10) qClo.nd rfl (Or.inl rfl)) (pgs_cons (pg_name (i := 11) qClo.nd rfl (Or.inl rfl)) pgs_nil)))) (fun _ _ _ _ _ => (pts_one (pt_cmpR op_eq (pv 11) (pv 8) (nomark _)))) (fun _ _ _ _ _ => (pe_tup (pa_cons (pv 7) (pa_cons (pv 10) pa_nil))))))) (pss_cons (ps_if (PW.pt (pw_or (pt_val (pv 6)) (pw_or1 (pt_cmpR op_lt (pe_op op_add (pv 7) pe_int) (pe_callB call_len_seq (by rfl) T.b_len PySem.boot_len (pa_cons (pv 5) pa_nil)) (nomark _))))) (pss_one (ps_set (i := 9) qClo.nd rfl (Or.inl rfl) (pe_op op_cat (pv 9) (pe_lc (own := [("a", 10), ("b", 11)]) rfl qClo.nd (pi_tup (pv 4)) (blkOk_by (N := J.N_close) (sc := defScope sClo) (by decide +kernel)) (fun _ _ _ _ _ => (pg_tup rfl (pgs_cons (pg_name (i := 10) qClo.nd rfl (Or.inl rfl)) (pgs_cons (pg_name (i := 11) qClo.nd rfl (Or.inl rfl)) pgs_nil)))) (fun _ _ _ _ _ => (pts_one (pt_cmpR op_eq (pv 10) (pv 8) (nomark _)))) (fun _ _ _ _ _ => (pe_tup (pa_cons (pe_op op_mod (pe_op op_add (pv 7) pe_int) (pe_callB call_len_seq (by rfl) T.b_len PySem.boot_len (pa_cons (pv 5) pa_nil))) (pa_cons (pv 11) pa_nil)))))))) pss_nil) (pss_cons (ps_if (PW.pt (pw_or (pt_val (pv 6)) (pw_or1 (pt_cmpR op_gt (pv 7) pe_int (nomark _))))) (pss_one (ps_set (i := 9) qClo.nd rfl (Or.inl rfl) (pe_op op_cat (pv 9) (pe_lc (own := [("a", 10), ("b", 11)]) rfl qClo.nd (pi_tup (pv 4)) (blkOk_by (N := J.N_close) (sc := defScope sClo) (by decide +kernel)) (fun _ _ _ _ _ => (pg_tup rfl (pgs_cons (pg_name (i := 10) qClo.nd rfl (Or.inl rfl)) (pgs_cons (pg_name (i := 11) qClo.nd rfl (Or.inl rfl)) pgs_nil)))) (fun _ _ _ _ _ => (pts_one (pt_cmpR op_eq (pv 11) (pv 8) (nomark _)))) (fun _ _ _ _ _ => (pe_tup (pa_cons (pe_op op_mod (pe_op op_sub (pv 7) pe_int) (pe_callB call_len_seq (by rfl) T.b_len PySem.boot_len (pa_cons (pv 5) pa_nil))) (pa_cons (pv 10) pa_nil)))))))) pss_nil) (pss_one (ps_ret (pe_callB (cr_sortTT (d := 2) (B := 64) (by decide)) (by rfl) T.b_sorted PyProof.Rows.Boot.«sorted» (pa_cons (pv 9) pa_nil)))))))))
theorem ok_box (F : Fun K "_law_box" "_law_box" sBox f fd) (T : Txt K mg Cs) : FnOk P w K mg base CX0 1 f fd ["net", "spot"] (J.spW (J.pBox K)) := by
  refine F.ok qBox (fun vs H Q E h => ?_) (fun cdv A outer s H vs Q E hr h => ⟨J.t_box K Cs, PSs.nox ?_, J.pure_box vs H Q E h⟩)
  · exact len_W (fun As Φ h => by first | (obtain ⟨rfl, _⟩ := h; rfl) | (obtain ⟨_, rfl, _⟩ := h; rfl) | (obtain ⟨_, _, rfl, _⟩ := h; rfl) | (obtain ⟨_, _, _, rfl, _⟩ := h; rfl) | (obtain ⟨_, _, _, _, rfl, _⟩ := h; rfl) | (obtain ⟨_, _, _, _, _, rfl, _⟩ := h; rfl) | (obtain ⟨_, _, _, _, _, _, rfl, _⟩ := h; rfl) | (obtain ⟨_, _, _, _, _, _, _, rfl, _⟩ := h; rfl) | (obtain ⟨_, _, _, _, _, _, _, _, rfl, _⟩ := h; rfl) | (obtain ⟨_, _, _, _, _, _, _, _, _, rfl, _⟩ := h; rfl) | (obtain ⟨_, _, _, _, _, _, _, _, _, _, rfl, _⟩ := h; rfl) | (obtain ⟨_, _, _, _, _, _, _, _, _, _, _, rfl, _⟩ := h; rfl) | (obtain ⟨_, _, _, _, _, _, _, _, _, _, _, _, rfl, _⟩ := h; rfl)) h
  · exact (pss_one (ps_ret (pe_ix ix_tup (pe_ix ix_list (pe_ix ix_list (pv 0) pe_int (fun _ _ => rfl)) (pe_ix ix_tup (pv 1) pe_int (fun _ _ => rfl)) (fun _ _ => rfl)) (pe_ix ix_tup (pv 1) pe_int (fun _ _ => rfl)) (fun _ _ => rfl))))
theorem ok_some (F : Fun K "_law_some_spots" "_law_some_spots" sSome f fd) (T : Txt K mg Cs) (GP : DefOk P w K mg base 1 "_law_pick" ["tape", "many"] (spPick)) (GS : DefOk P w K mg base 2 "_law_shuffled" ["tape", "things"] (spShuf K)) (GSp : DefOk P w K mg base 2 "_law_spots" ["net"] (J.spW (J.pSpots K))) : FnOk P w K mg base CX0 3 f fd ["tape", "net", "many"] (J.spW (J.pSome K)) := by
  refine F.ok qSome (fun vs H Q E h => ?_) (fun cdv A outer s H vs Q E hr h => ⟨J.t_some K Cs (J.pSpots K), PSs.nox ?_, J.pure_some vs H Q E h⟩)
  · exact len_W (fun As Φ h => by first | (obtain ⟨rfl, _⟩ := h; rfl) | (obtain ⟨_, rfl, _⟩ := h; rfl) | (obtain ⟨_, _, rfl, _⟩ := h; rfl) | (obtain ⟨_, _, _, rfl, _⟩ := h; rfl) | (obtain ⟨_, _, _, _, rfl, _⟩ := h; rfl) | (obtain ⟨_, _, _, _, _, rfl, _⟩ := h; rfl) | (obtain ⟨_, _, _, _, _, _, rfl, _⟩ := h; rfl) | (obtain ⟨_, _, _, _, _, _, _, rfl, _⟩ := h; rfl) | (obtain ⟨_, _, _, _, _, _, _, _, rfl, _⟩ := h; rfl) | (obtain ⟨_, _, _, _, _, _, _, _, _, rfl, _⟩ := h; rfl) | (obtain ⟨_, _, _, _, _, _, _, _, _, _, rfl, _⟩ := h; rfl) | (obtain ⟨_, _, _, _, _, _, _, _, _, _, _, rfl, _⟩ := h; rfl) | (obtain ⟨_, _, _, _, _, _, _, _, _, _, _, _, rfl, _⟩ := h; rfl)) h
  · exact (pss_one (ps_ret (pe_slice sl_list (pe_d GS (hr.mono (by decide)) rfl (pa_cons (pv 0) (pa_cons (pe_d GSp (hr.mono (by decide)) rfl (pa_cons (pv 1) pa_nil)) pa_nil))) po_none (po_some (pe_d GP (hr.mono (by decide)) rfl (pa_cons (pv 0) (pa_cons (pe_op op_add (pv 2) pe_int) pa_nil)))))))
theorem ok_odd (F : Fun K "_law_odd_spot" "_law_odd_spot" sOdd f fd) (T : Txt K mg Cs) (GO : DefOk P w K mg base 2 "_law_one_of" ["tape", "things"] (spOne K)) (GA : DefOk P w K mg base 3 "_law_any" ["tape"] (J.spW (J.pAny K))) : FnOk P w K mg base CX0 4 f fd ["tape", "net"] (J.spW (J.pOdd K)) := by
  refine F.ok qOdd (fun vs H Q E h => ?_) (fun cdv A outer s H vs Q E hr h => ⟨J.t_odd K Cs (J.pAny K), PSs.nox ?_, J.pure_odd vs H Q E h⟩)
  · exact len_W (fun As Φ h => by first | (obtain ⟨rfl, _⟩ := h; rfl) | (obtain ⟨_, rfl, _⟩ := h; rfl) | (obtain ⟨_, _, rfl, _⟩ := h; rfl) | (obtain ⟨_, _, _, rfl, _⟩ := h; rfl) | (obtain ⟨_, _, _, _, rfl, _⟩ := h; rfl) | (obtain ⟨_, _, _, _, _, rfl, _⟩ := h; rfl) | (obtain ⟨_, _, _, _, _, _, rfl, _⟩ := h; rfl) | (obtain ⟨_, _, _, _, _, _, _, rfl, _⟩ := h; rfl) | (obtain ⟨_, _, _, _, _, _, _, _, rfl, _⟩ := h; rfl) | (obtain ⟨_, _, _, _, _, _, _, _, _, rfl, _⟩ := h; rfl) | (obtain ⟨_, _, _, _, _, _, _, _, _, _, rfl, _⟩ := h; rfl) | (obtain ⟨_, _, _, _, _, _, _, _, _, _, _, rfl, _⟩ := h; rfl) | (obtain ⟨_, _, _, _, _, _, _, _, _, _, _, _, rfl, _⟩ := h; rfl)) h
  · exact (pss_cons (ps_par (i := 2) (j := 3) rfl qOdd.nd rfl rfl (by decide) rfl rfl (pa_cons (pe_ix ix_tup (pe_ix ix_list (pv 1) pe_int (fun _ _ => rfl)) pe_int (fun _ _ => rfl)) (pa_cons (pe_callB call_len_seq (by rfl) T.b_len PySem.boot_len (pa_cons (pe_ix ix_list (pv 1) pe_int (fun _ _ => rfl)) pa_nil)) pa_nil)) (by rfl)) (pss_cons (ps_set (i := 4) qOdd.nd rfl (Or.inl rfl) (pe_lst (pa_cons (pe_tup (pa_cons pe_int (pa_cons pe_int pa_nil))) (pa_cons (pe_tup (pa_cons (pe_op op_sub (pv 3) pe_int) (pa_cons (pe_op op_sub (pv 2) pe_int) pa_nil))) (pa_cons (pe_tup (pa_cons (pv 3) (pa_cons pe_int pa_nil))) (pa_cons (pe_tup (pa_cons pe_int (pa_cons (pv 2) pa_nil))) (pa_cons (pe_tup (pa_cons (pe_op op_sub pe_int pe_int) (pa_cons pe_int pa_nil))) (pa_cons (pe_tup (pa_cons pe_int (pa_cons (pe_op op_sub pe_int pe_int) pa_nil))) (pa_cons (pe_tup (pa_cons pe_bl (pa_cons pe_int pa_nil))) (pa_cons (pe_tup (pa_cons pe_int (pa_cons pe_bl pa_nil))) (pa_cons (pe_lst (pa_cons pe_int (pa_cons pe_int pa_nil))) (pa_cons (pe_tup (pa_cons pe_int pa_nil)) (pa_cons (pe_tup (pa_cons pe_int (pa_cons pe_int (pa_cons pe_int pa_nil)))) pa_nil))))))))))))) (pss_one (ps_ret (pe_d GO (hr.mono (by decide)) rfl (pa_cons (pv 0) (pa_cons (pe_op op_cat (pv 4) (pe_lst (pa_cons pe_non (pa_cons pe_int (pa_cons pe_str (pa_cons (pe_tup (pa_cons pe_int (pa_cons pe_non pa_nil))) (pa_cons (pe_tup (pa_cons (pe_op op_pow pe_int pe_int) (pa_cons pe_int pa_nil))) (pa_cons (pe_d GA (hr.mono (by decide)) rfl (pa_cons (pv 0) pa_nil)) pa_nil)))))))) pa_nil)))))))
theorem ok_ri (F : Fun K "_law_seats_right" "_law_seats_right" sRi f fd) (T : Txt K mg Cs) (GSp : DefOk P w K mg base 2 "_law_spots" ["net"] (J.spW (J.pSpots K))) (GCl : DefOk P w K mg base 1 "_law_close" ["net", "spot"] (J.spW (J.pClose K))) (GBo : DefOk P w K mg base 1 "_law_box" ["net", "spot"] (J.spW (J.pBox K))) (MQ : MeOk P w K mg base 3 Cs.W "is_seat" ["self", "value"] "value" (J.spW (J.pSeat K Cs))) (MC : MeOk P w K mg base 4 Cs.W "cell" ["self", "seat"] "seat" (J.spW (J.pCellAt K Cs))) (MN : MeOk P w K mg base 4 Cs.W "neighbours" ["self", "seat"] "seat" (J.spF (J.pNear K Cs))) (MS : MeO0 P w K mg base 3 Cs.W "seats" (J.spF (J.pSeats K Cs))) : FnOk P w K mg base CX0 5 f fd ["net", "web"] (J.spW (J.pRight K Cs)) := by
  refine F.ok qRi (fun vs H Q E h => ?_) (fun cdv A outer s H vs Q E hr h => ⟨J.t_right K Cs (J.pSpots K) (J.pClose K) (J.pBox K) (J.pSeat K Cs) (J.pCellAt K Cs) (J.pSeats K Cs) (J.pNear K Cs) J.gApp, PSs.nox ?_, J.pure_right vs H Q E h⟩)
  · exact len_W (fun As Φ h => by first | (obtain ⟨rfl, _⟩ := h; rfl) | (obtain ⟨_, rfl, _⟩ := h; rfl) | (obtain ⟨_, _, rfl, _⟩ := h; rfl) | (obtain ⟨_, _, _, rfl, _⟩ := h; rfl) | (obtain ⟨_, _, _, _, rfl, _⟩ := h; rfl) | (obtain ⟨_, _, _, _, _, rfl, _⟩ := h; rfl) | (obtain ⟨_, _, _, _, _, _, rfl, _⟩ := h; rfl) | (obtain ⟨_, _, _, _, _, _, _, rfl, _⟩ := h; rfl) | (obtain ⟨_, _, _, _, _, _, _, _, rfl, _⟩ := h; rfl) | (obtain ⟨_, _, _, _, _, _, _, _, _, rfl, _⟩ := h; rfl) | (obtain ⟨_, _, _, _, _, _, _, _, _, _, rfl, _⟩ := h; rfl) | (obtain ⟨_, _, _, _, _, _, _, _, _, _, _, rfl, _⟩ := h; rfl) | (obtain ⟨_, _, _, _, _, _, _, _, _, _, _, _, rfl, _⟩ := h; rfl)) h
  · exact (pss_cons (ps_if (pt_cmpR (op_neD hr.units) (pe_m0 MS T.wc.cl (hr.mono (by decide)) (pv 1)) (pe_d GSp (hr.mono (by decide)) rfl (pa_cons (pv 0) pa_nil)) (nomark _)) (pss_one (ps_ret pe_bl)) pss_nil) (pss_cons (ps_set (i := 2) qRi.nd rfl (Or.inl rfl) (pe_lst (pa_cons (pe_m0 MS T.wc.cl (hr.mono (by decide)) (pv 1)) (pa_cons (pe_m0 MS T.wc.cl (hr.mono (by decide)) (pv 1)) pa_nil)))) (pss_cons (ps_expr (pe_bm0 PySem.F.plainAttrs_list PySem.F.slot_list_clear PySem.F.type_list_clear mt_clear (pe_ix ix_list (pv 2) pe_int (fun _ _ => rfl)))) (pss_cons (ps_if (pt_cmpR (op_neD hr.units) (pe_ix ix_list (pv 2) pe_int (fun _ _ => rfl)) (pe_d GSp (hr.mono (by decide)) rfl (pa_cons (pv 0) pa_nil)) (nomark _)) (pss_one (ps_ret pe_bl)) pss_nil) (pss_cons (ps_for PassesOwn.never rfl (pi_list (pe_d GSp (hr.mono (by decide)) rfl (pa_cons (pv 0) pa_nil))) (pg_name (i := 3) qRi.nd rfl (Or.inl rfl)) (pss_cons (ps_set (i := 4) qRi.nd rfl (Or.inl rfl) (pe_mP MN T.wc.cl (hr.mono (by decide)) (pv 1) (pa_cons (pv 3) pa_nil))) (pss_cons (ps_if (PW.pt (pw_or (pt_cmpR (op_neD hr.units) (pv 4) (pe_d GCl (hr.mono (by decide)) rfl (pa_cons (pv 0) (pa_cons (pv 3) pa_nil))) (nomark _)) (pw_or (pt_cmpR (op_neD hr.units) (pe_mP MC T.wc.cl (hr.mono (by decide)) (pv 1) (pa_cons (pv 3) pa_nil)) (pe_d GBo (hr.mono (by decide)) rfl (pa_cons (pv 0) (pa_cons (pv 3) pa_nil))) (nomark _)) (pw_or1 (pt_not (pt_val (pe_mP MQ T.wc.cl (hr.mono (by decide)) (pv 1) (pa_cons (pv 3) pa_nil)))))))) (pss_one (ps_ret pe_bl)) pss_nil) (pss_cons (ps_expr (pe_bm PySem.F.plainAttrs_list PySem.F.slot_list_append PySem.F.type_list_append mt_append (pv 4) (pa_cons pe_non pa_nil))) (pss_one (ps_if (PW.pt (pw_or (pt_cmpR (op_neD hr.units) (pe_mK MN T.wc.cl (hr.mono (by decide)) (pv 1) (pk_cons (pv 3) pk_nil)) (pe_d GCl (hr.mono (by decide)) rfl (pa_cons (pv 0) (pa_cons (pv 3) pa_nil))) (nomark _)) (pw_or1 (pt_cmpR (op_neD hr.units) (pe_mK MC T.wc.cl (hr.mono (by decide)) (pv 1) (pk_cons (pv 3) pk_nil)) (pe_d GBo (hr.mono (by decide)) rfl (pa_cons (pv 0) (pa_cons (pv 3) pa_nil))) (nomark _))))) (pss_one (ps_ret pe_bl)) pss_nil)))))) (pss_one (ps_ret (pe_cmpR (op_eqD hr.units) (pe_m0 MS T.wc.cl (hr.mono (by decide)) (pv 1)) (pe_d GSp (hr.mono (by decide)) rfl (pa_cons (pv 0) pa_nil)) (nomark _)))))))))
theorem ok_asp (F : Fun K "_law_are_spots" "_law_are_spots" sASp f fd) (T : Txt K mg Cs) (GSp : DefOk P w K mg base 2 "_law_spots" ["net"] (J.spW (J.pSpots K))) (GU : DefOk P w K mg base 1 "_law_unlike" ["things"] (J.spW (J.pUn K))) : FnG P w K mg base 4 f fd ["net", "value_here"] (J.spW (J.pAreSp K)) := by
  refine FnG.of F qASp (fun vs H Q E h => ?_) (fun cdv A outer s H vs Q E hc hr h => ⟨J.t_areSp K Cs (J.pSpots K) (J.pUn K), PSs.nox ?_, J.pure_areSp T.kt vs H Q E h⟩)
  · exact len_W (fun As Φ h => by first | (obtain ⟨rfl, _⟩ := h; rfl) | (obtain ⟨_, rfl, _⟩ := h; rfl) | (obtain ⟨_, _, rfl, _⟩ := h; rfl) | (obtain ⟨_, _, _, rfl, _⟩ := h; rfl) | (obtain ⟨_, _, _, _, rfl, _⟩ := h; rfl) | (obtain ⟨_, _, _, _, _, rfl, _⟩ := h; rfl) | (obtain ⟨_, _, _, _, _, _, rfl, _⟩ := h; rfl) | (obtain ⟨_, _, _, _, _, _, _, rfl, _⟩ := h; rfl) | (obtain ⟨_, _, _, _, _, _, _, _, rfl, _⟩ := h; rfl) | (obtain ⟨_, _, _, _, _, _, _, _, _, rfl, _⟩ := h; rfl) | (obtain ⟨_, _, _, _, _, _, _, _, _, _, rfl, _⟩ := h; rfl) | (obtain ⟨_, _, _, _, _, _, _, _, _, _, _, rfl, _⟩ := h; rfl) | (obtain ⟨_, _, _, _, _, _, _, _, _, _, _, _, rfl, _⟩ := h; rfl)) h
  · exact (pss_cons (ps_if (pt_not (pt_val (pe_callB call_isi (by rfl) T.b_isinstance PyProof.Rows.boot_isinstance (pa_cons (pv 1) (pa_cons (pe_bltn (by rfl) T.b_list PyProof.Rows.Boot.«list» rfl) pa_nil))))) (pss_one (ps_ret pe_bl)) pss_nil) (pss_cons (ps_set (i := 2) qASp.nd rfl (Or.inr rfl) (pe_lc (own := [("spot", 4)]) rfl qASp.nd (pi_list (pe_d GSp (hr.mono (by decide)) rfl (pa_cons (pv 0) pa_nil))) (blkOk_by (N := J.N_areSp) (sc := defScope sASp) (by decide +kernel)) (fun _ _ _ _ _ => (pg_name (i := 4) qASp.nd rfl (Or.inl rfl))) (fun _ _ _ _ _ => pts_nil) (fun _ _ _ _ _ => (pe_callB (J.call_repr2 hc hr.units) (by rfl) T.b_repr PyProof.Rows.boot_repr (pa_cons (pv 4) pa_nil))))) (pss_cons (ps_setLc (i := 3) (own := [("thing", 5)]) rfl qASp.nd rfl rfl (sw_true rfl rfl rfl (by decide +kernel)) (pi_list (pv 1)) (blkOk_by (N := J.N_areSp) (sc := defScope sASp) (by decide +kernel)) (fun _ _ _ _ _ => (pg_name (i := 5) qASp.nd rfl (Or.inl rfl))) (fun _ _ _ _ _ => pts_nil) (fun _ _ _ _ _ => (pe_callB (J.call_repr2 hc hr.units) (by rfl) T.b_repr PyProof.Rows.boot_repr (pa_cons (pv 5) pa_nil)))) (pss_one (ps_ret (pe_and (pe_cmpR (op_eqD hr.units) (pe_lc (own := [("one", 6)]) rfl qASp.nd (pi_list (pv 3)) (blkOk_by (N := J.N_areSp) (sc := defScope sASp) (by decide +kernel)) (fun _ _ _ _ _ => (pg_name (i := 6) qASp.nd rfl (Or.inl rfl))) (fun _ _ _ _ _ => (pts_one (pt_cmpR op_notIn_seq (pv 6) (pv 2) (by rfl)))) (fun _ _ _ _ _ => (pv 6))) (pe_lst pa_nil) (nomark _)) (pe_one (pe_cmpR op_eq (pe_callB call_len_seq (by rfl) T.b_len PySem.boot_len (pa_cons (pe_d GU (hr.mono (by decide)) rfl (pa_cons (pv 3) pa_nil)) pa_nil)) (pe_callB call_len_seq (by rfl) T.b_len PySem.boot_len (pa_cons (pv 3) pa_nil)) (nomark _)))))))))
theorem ok_law (F : Fun K "law" "law" sLaw f fd) (T : Txt K mg Cs) (GT : DefOk P w K mg base 1 "_law_tape" ["script", "start"] (spTape K)) (GP : DefOk P w K mg base 1 "_law_pick" ["tape", "many"] (spPick)) (GO : DefOk P w K mg base 2 "_law_one_of" ["tape", "things"] (spOne K)) (GA : DefOk P w K mg base 3 "_law_any" ["tape"] (J.spW (J.pAny K))) (GN : DefOk P w K mg base 5 "_law_drawn_net" ["tape", "most", "many"] (J.spW (J.pNet K))) (GMB : DefOk P w K mg base 9 "_law_made_band" ["plan", "piles"] (J.spW (J.pMB K Cs))) (GMW : DefOk P w K mg base 10 "_law_made_web" ["net"] (J.spW (J.pMW K Cs))) (GSp : DefOk P w K mg base 2 "_law_spots" ["net"] (J.spW (J.pSpots K))) (GSo : DefOk P w K mg base 3 "_law_some_spots" ["tape", "net", "many"] (J.spW (J.pSome K))) (GOd : DefOk P w K mg base 4 "_law_odd_spot" ["tape", "net"] (J.spW (J.pOdd K))) (GR : DefOk P w K mg base 5 "_law_seats_right" ["net", "web"] (J.spW (J.pRight K Cs))) (GAS : DefG P w K mg base 4 "_law_are_spots" ["net", "value_here"] (J.spW (J.pAreSp K))) (MQ : MeOk P w K mg base 3 Cs.W "is_seat" ["self", "value"] "value" (J.spW (J.pSeat K Cs))) (MA : MeOk P w K mg base 4 Cs.W "are_seats" ["self", "value"] "value" (J.spW (J.pAreV K Cs))) (ES : EqOk P w K mg base 2 Cs.S (J.spW (J.pSEq K Cs))) (EW : EqOk P w K mg base 3 Cs.W (J.spW (J.pWEq K Cs))) (WO : WbOk P w K mg base Cs) : FnG P w K mg base 11 f fd ["script"] (J.spW (J.pLaw5 K)) := by
  refine FnG.of F qLaw (fun vs H Q E h => ?_) (fun cdv A outer s H vs Q E hc hr h => ⟨J.t5 K Cs, PSs.nox ?_, J.pure_law5 T.kt T.sc T.wc T.sis T.wis T.nfS T.kfS vs H Q E h⟩)
  · exact len_W (fun As Φ h => by first | (obtain ⟨rfl, _⟩ := h; rfl) | (obtain ⟨_, rfl, _⟩ := h; rfl) | (obtain ⟨_, _, rfl, _⟩ := h; rfl) | (obtain ⟨_, _, _, rfl, _⟩ := h; rfl) | (obtain ⟨_, _, _, _, rfl, _⟩ := h; rfl) | (obtain ⟨_, _, _, _, _, rfl, _⟩ := h; rfl) | (obtain ⟨_, _, _, _, _, _, rfl, _⟩ := h; rfl) | (obtain ⟨_, _, _, _, _, _, _, rfl, _⟩ := h; rfl) | (obtain ⟨_, _, _, _, _, _, _, _, rfl, _⟩ := h; rfl) | (obtain ⟨_, _, _, _, _, _, _, _, _, rfl, _⟩ := h; rfl) | (obtain ⟨_, _, _, _, _, _, _, _, _, _, rfl, _⟩ := h; rfl) | (obtain ⟨_, _, _, _, _, _, _, _, _, _, _, rfl, _⟩ := h; rfl) | (obtain ⟨_, _, _, _, _, _, _, _, _, _, _, _, rfl, _⟩ := h; rfl)) h
  · exact (pss_cons (ps_for PassesOwn.never rfl (pi_range1 rfl T.b_range (pa_cons (pe_callB (call_max2 rfl) (by rfl) T.b_max PyProof.Rows.boot_max (pa_cons pe_int (pa_cons (pe_callB (call_min2 rfl) (by rfl) T.b_min PyProof.Rows.boot_min (pa_cons pe_int (pa_cons (pe_callB call_len_seq (by rfl) T.b_len PySem.boot_len (pa_cons (pv 0) pa_nil)) pa_nil))) pa_nil))) pa_nil)) (pg_name (i := 1) qLaw.nd rfl (Or.inl rfl)) (pss_cons (ps_set (i := 2) qLaw.nd rfl (Or.inl rfl) (pe_d GT (hr.mono (by decide)) rfl (pa_cons (pv 0) (pa_cons (pv 1) pa_nil)))) (pss_one (ps_for PassesOwn.never rfl (pi_range1 rfl T.b_range (pa_cons pe_int pa_nil)) (pg_name (i := 3) qLaw.nd rfl (Or.inl rfl)) (pss_cons (ps_par (i := 4) (j := 5) rfl qLaw.nd rfl rfl (by decide) rfl rfl (pa_cons (pe_d GN (hr.mono (by decide)) rfl (pa_cons (pv 2) (pa_cons pe_int (pa_cons pe_int pa_nil)))) (pa_cons (pe_d GN (hr.mono (by decide)) rfl (pa_cons (pv 2) (pa_cons pe_int (pa_cons pe_int pa_nil)))) pa_nil)) (by rfl)) (pss_cons (ps_set (i := 6) qLaw.nd rfl (Or.inl rfl) (pe_d GMB (hr.mono (by decide)) rfl (pa_cons (pe_ix ix_list (pv 4) pe_int (fun _ _ => rfl)) (pa_cons (pe_ix ix_list (pv 4) pe_int (fun _ _ => rfl)) pa_nil)))) (pss_cons (ps_set (i := 7) qLaw.nd rfl (Or.inl rfl) (pe_wR WO T.web (hr.mono (by decide)) rfl (pk_cons (pe_ix ix_list (pv 4) pe_int (fun _ _ => rfl)) (pk_cons (pv 6) pk_nil)))) (pss_cons (ps_if (PW.pt (pw_or (pt_not (pt_cmpR (op_eq_ ES (hr.mono (by decide))) (pe_fld (pv 7) rfl) (pv 6) (nomark _))) (pw_or (pt_cmpR op_ne (pe_callB (J.call_repr2 hc hr.units) (by rfl) T.b_repr PyProof.Rows.boot_repr (pa_cons (pe_fld (pv 7) rfl) pa_nil)) (pe_callB (J.call_repr2 hc hr.units) (by rfl) T.b_repr PyProof.Rows.boot_repr (pa_cons (pe_ix ix_list (pv 4) pe_int (fun _ _ => rfl)) pa_nil)) (nomark _)) (pw_or1 (pt_not (pt_val (pe_d GR (hr.mono (by decide)) rfl (pa_cons (pv 4) (pa_cons (pv 7) pa_nil))))))))) (pss_one (ps_ret pe_bl)) pss_nil) (pss_cons (ps_if (PW.pt (pw_or (pt_not (pt_cmpR (op_eq_ EW (hr.mono (by decide))) (pv 7) (pe_d GMW (hr.mono (by decide)) rfl (pa_cons (pv 4) pa_nil)) (nomark _))) (pw_or (pt_cmpR op_ne (pe_cmpR (op_eq_ EW (hr.mono (by decide))) (pv 7) (pe_d GMW (hr.mono (by decide)) rfl (pa_cons (pv 5) pa_nil)) (nomark _)) (pe_cmpR (op_eqD hr.units) (pv 4) (pv 5) (nomark _)) (nomark _)) (pw_or (pt_cmpR (op_eq_ EW (hr.mono (by decide))) (pv 7) (pv 6) (nomark _)) (pw_or1 (pt_cmpR (op_eq_ EW (hr.mono (by decide))) (pv 7) pe_non (nomark _))))))) (pss_one (ps_ret pe_bl)) pss_nil) (pss_cons (ps_if (PW.pt (pw_or (PW.pt (pw_and (pt_cmpR op_gt (pe_callB call_len_seq (by rfl) T.b_len PySem.boot_len (pa_cons (pe_ix ix_list (pv 4) pe_int (fun _ _ => rfl)) pa_nil)) pe_int (nomark _)) (pw_and1 (pt_cmpR (op_eq_ EW (hr.mono (by decide))) (pv 7) (pe_wA WO T.web (hr.mono (by decide)) rfl (pa_cons (pv 6) pa_nil) (pk_cons (pe_not (pe_ix ix_list (pv 4) pe_int (fun _ _ => rfl))) pk_nil)) (nomark _))))) (pw_or1 (PW.pt (pw_and (pt_not (pt_val (pe_ix ix_list (pv 4) pe_int (fun _ _ => rfl)))) (pw_and1 (pt_not (pt_cmpR (op_eq_ EW (hr.mono (by decide))) (pe_wD WO T.web (hr.mono (by decide)) rfl (pa_cons (pv 6) pa_nil)) (pv 7) (nomark _))))))))) (pss_one (ps_ret pe_bl)) pss_nil) (pss_cons (ps_setLc (i := 8) (own := [("spot", 14)]) rfl qLaw.nd rfl rfl (sw_true rfl rfl rfl (by decide +kernel)) (pi_list (pe_d GSp (hr.mono (by decide)) rfl (pa_cons (pv 4) pa_nil))) (blkOk_by (N := J.N_law5) (sc := defScope sLaw) (by decide +kernel)) (fun _ _ _ _ _ => (pg_name (i := 14) qLaw.nd rfl (Or.inl rfl))) (fun _ _ _ _ _ => pts_nil) (fun _ _ _ _ _ => (pe_callB (J.call_repr2 hc hr.units) (by rfl) T.b_repr PyProof.Rows.boot_repr (pa_cons (pv 14) pa_nil)))) (pss_one (ps_for PassesOwn.never rfl (pi_range1 rfl T.b_range (pa_cons pe_int pa_nil)) (pg_name (i := 9) qLaw.nd rfl (Or.inl rfl)) (pss_cons (ps_set (i := 10) qLaw.nd rfl (Or.inl rfl) (pe_d GOd (hr.mono (by decide)) rfl (pa_cons (pv 2) (pa_cons (pv 4) pa_nil)))) (pss_cons (ps_if (pt_cmpR op_ne (pe_callB (J.call_repr2 hc hr.units) (by rfl) T.b_repr PyProof.Rows.boot_repr (pa_cons (pe_lst (pa_cons (pe_mP MQ T.wc.cl (hr.mono (by decide)) (pv 7) (pa_cons (pv 10) pa_nil)) (pa_cons (pe_mK MQ T.wc.cl (hr.mono (by decide)) (pv 7) (pk_cons (pv 10) pk_nil)) pa_nil))) pa_nil)) (pe_callB (J.call_repr2 hc hr.units) (by rfl) T.b_repr PyProof.Rows.boot_repr (pa_cons (pe_op op_rep (pe_lst (pa_cons (pe_cmpR op_in_seq (pe_callB (J.call_repr2 hc hr.units) (by rfl) T.b_repr PyProof.Rows.boot_repr (pa_cons (pv 10) pa_nil)) (pv 8) (by rfl)) pa_nil)) pe_int) pa_nil)) (nomark _)) (pss_one (ps_ret pe_bl)) pss_nil) (pss_cons (ps_set (i := 11) qLaw.nd rfl (Or.inl rfl) (pe_op op_cat (pe_d GSo (hr.mono (by decide)) rfl (pa_cons (pv 2) (pa_cons (pv 4) (pa_cons pe_int pa_nil)))) (pe_op op_rep (pe_lst (pa_cons (pv 10) pa_nil)) (pe_d GP (hr.mono (by decide)) rfl (pa_cons (pv 2) (pa_cons pe_int pa_nil)))))) (pss_cons (ps_set (i := 11) qLaw.nd rfl (Or.inl rfl) (pe_d GO (hr.mono (by decide)) rfl (pa_cons (pv 2) (pa_cons (pe_lst (pa_cons (pv 11) (pa_cons (pv 11) (pa_cons (pe_op op_cat (pv 11) (pe_slice sl_list (pv 11) po_none (po_some pe_int))) (pa_cons (pe_callTy call_tuple_of (by rfl) T.b_tuple PyProof.Rows.Boot.«tuple» (pa_cons (pv 11) pa_nil)) (pa_cons (pe_d GA (hr.mono (by decide)) rfl (pa_cons (pv 2) pa_nil)) pa_nil)))))) pa_nil)))) (pss_cons (ps_par (i := 12) (j := 13) rfl qLaw.nd rfl rfl (by decide) rfl rfl (pa_cons (pe_callB (J.call_repr2 hc hr.units) (by rfl) T.b_repr PyProof.Rows.boot_repr (pa_cons (pv 11) pa_nil)) (pa_cons (pe_dG GAS hc (hr.mono (by decide)) rfl (pa_cons (pv 4) (pa_cons (pv 11) pa_nil))) pa_nil)) (by rfl)) (pss_one (ps_if (PW.pt (pw_or (pt_cmpR op_ne (pe_callB (J.call_repr2 hc hr.units) (by rfl) T.b_repr PyProof.Rows.boot_repr (pa_cons (pe_lst (pa_cons (pe_mP MA T.wc.cl (hr.mono (by decide)) (pv 7) (pa_cons (pv 11) pa_nil)) (pa_cons (pe_mK MA T.wc.cl (hr.mono (by decide)) (pv 7) (pk_cons (pv 11) pk_nil)) pa_nil))) pa_nil)) (pe_callB (J.call_repr2 hc hr.units) (by rfl) T.b_repr PyProof.Rows.boot_repr (pa_cons (pe_op op_rep (pe_lst (pa_cons (pv 13) pa_nil)) pe_int) pa_nil)) (nomark _)) (pw_or1 (pt_cmpR op_ne (pe_callB (J.call_repr2 hc hr.units) (by rfl) T.b_repr PyProof.Rows.boot_repr (pa_cons (pv 11) pa_nil)) (pv 12) (nomark _))))) (pss_one (ps_ret pe_bl)) pss_nil)))))))))))))))))))) (pss_one (ps_ret pe_bl)))
end
end K5

set_option maxHeartbeats 4000000
namespace K5
open PySem PySem.Spec PyProof.Rows L2 Tp G
def ty7 : List String := ["NoneType", "bool", "int", "str", "list", "tuple", "dict"]
def tabTy (K : PySem.W.Frag) : Bool := ty7.all fun t => (["int", "bool", "tuple", "list"] : List String).all fun u => PySem.W.kitOne K (.type t) (.type u) == some (subTy t u)
def tabSeq (K : PySem.W.Frag) : Bool := ty7.all fun t => PySem.W.kitAny K (.type t) [.type "list", .type "tuple"] == some (t == "list" || t == "tuple")
def tabFr (K : PySem.W.Frag) (C : Addr) : Bool := (ty7.all fun t => (PySem.W.kitOne K (.type t) (.ref C) == some false) && PySem.W.notFirst K C (.type t)) && PySem.W.kitOne K (.ref C) (.ref C) == some true
def tabSW (K : PySem.W.Frag) (S W : Addr) : Bool := PySem.W.notFirst K W (.ref S) && PySem.W.kitOne K (.ref S) (.ref W) == some false
theorem ty_in (d : PyData) : tyD d ∈ ty7 := by cases d <;> simp [tyD, ty7]
theorem kt_of {K : PySem.W.Frag} (h : tabTy K = true) : KitTy K := fun d u hu => beq_iff_eq.mp (List.all_eq_true.mp (List.all_eq_true.mp h _ (ty_in d)) u hu)
theorem ks_of {K : PySem.W.Frag} (h : tabSeq K = true) : KitSeq K := fun d => by
  have z := beq_iff_eq.mp (List.all_eq_true.mp h _ (ty_in d))
  rw [z]
  cases d <;> rfl
theorem fr_of {K : PySem.W.Frag} {C : Addr} (h : tabFr K C = true) : (∀ d, PySem.W.kitOne K (.type (tyD d)) (.ref C) = some false ∧ PySem.W.notFirst K C (.type (tyD d)) = true) ∧ PySem.W.kitOne K (.ref C) (.ref C) = some true := by
  unfold tabFr at h
  rw [Bool.and_eq_true] at h
  refine ⟨fun d => ?_, beq_iff_eq.mp h.2⟩
  have z := List.all_eq_true.mp h.1 _ (ty_in d)
  rw [Bool.and_eq_true] at z
  exact ⟨beq_iff_eq.mp z.1, z.2⟩
theorem sw_of {K : PySem.W.Frag} {S W : Addr} (h : tabSW K S W = true) : PySem.W.notFirst K W (.ref S) = true ∧ PySem.W.kitOne K (.ref S) (.ref W) = some false := by
  unfold tabSW at h
  rw [Bool.and_eq_true] at h
  exact ⟨h.1, beq_iff_eq.mp h.2⟩
theorem fis_of {K : PySem.W.Frag} {C : Addr} (cl : Cls K C) (h1 : PySem.W.findIn K (.ref C) "__class__" = some (some (.builtin "object.__class__"))) (h2 : PySem.W.specialIn K (.builtin "object.__class__") "__get__" = some (some (.builtin "getset_descriptor.__get__"))) (h3 : PySem.W.takesIn K (.builtin "object.__class__") = some true) (h4 : PySem.W.mroIn K C (.type "object") = some true) (t : tabFr K C = true) : FrIs K C := by
  obtain ⟨q1, q2⟩ := fr_of t
  exact ⟨cl, h1, h2, h3, h4, fun d => (q1 d).1, q2, fun d => (q1 d).2⟩
def FunAt (K : PySem.W.Frag) (x qual : Str) (st : Stmt) (f : Addr) : Prop := ∃ fd, Fun K x qual st f fd
section
variable {P : Program} {w : World} {K : PySem.W.Frag} {mg : Str → Option Value} {base : Heap} {k : Nat} {x m q kw : Str} {ps : List Str} {sp : Sp} {st : Stmt} {C f p : Addr} {h : Heap}
theorem def_ok (X : K.In h) (G : h.Ns mainGlobals mg) (a : PySem.W.nsIn K mainGlobals x = some (some (.ref f))) (F : FunAt K x x st f)
    (b : ∀ (kV doc pm : Value) (an : Option Addr) (cdv ct : Value) (us : List Value), us.length = ps.length → bindArgs (PySem.W.fnOf x x (defArgs st) (defBody st) (defScope st) .none kV doc pm an cdv ct) ⟨us, []⟩ = pure (ps.zip us))
    (ok : ∀ fd, Fun K x x st f fd → FnOk P w K mg base CX0 k f fd ps sp) : DefOk P w K mg base k x ps sp := by
  obtain ⟨fd, F⟩ := F
  exact ⟨f, fd, PySem.W.mg_of X G a, F.kp, F.binds b, ok fd F⟩
theorem def_okG (X : K.In h) (G : h.Ns mainGlobals mg) (a : PySem.W.nsIn K mainGlobals x = some (some (.ref f))) (F : FunAt K x x st f)
    (b : ∀ (kV doc pm : Value) (an : Option Addr) (cdv ct : Value) (us : List Value), us.length = ps.length → bindArgs (PySem.W.fnOf x x (defArgs st) (defBody st) (defScope st) .none kV doc pm an cdv ct) ⟨us, []⟩ = pure (ps.zip us))
    (ok : ∀ fd, Fun K x x st f fd → FnG P w K mg base k f fd ps sp) : DefG P w K mg base k x ps sp := by
  obtain ⟨fd, F⟩ := F
  exact ⟨f, fd, PySem.W.mg_of X G a, F.kp, F.binds b, ok fd F⟩
theorem kbn_one {fd : FuncData} (b : ∀ (s : Shared) (u v : Value), K.In s.heap → BindsTo s fd ⟨[u], [(kw, v)]⟩ ((["self", kw] : List Str).zip [u, v])) : ∃ g, KBn K fd ["self", kw] 1 [kw] g J.gApp :=
  ⟨fun us ws => us ++ ws, fun s us ws X l1 l2 => match us, ws, l1, l2 with | [u], [v], _, _ => b s u v X, fun r1 r2 => r1.append r2⟩
theorem me_ok (M : Meth K C m f) (F : FunAt K m q st f)
    (b : ∀ (kV doc pm : Value) (an : Option Addr) (cdv ct : Value) (us : List Value), us.length = (["self", kw] : List Str).length → bindArgs (PySem.W.fnOf m q (defArgs st) (defBody st) (defScope st) .none kV doc pm an cdv ct) ⟨us, []⟩ = pure ((["self", kw] : List Str).zip us))
    (bk : ∀ (kV doc pm : Value) (an : Option Addr) (cdv ct u v : Value), bindArgs (PySem.W.fnOf m q (defArgs st) (defBody st) (defScope st) .none kV doc pm an cdv ct) ⟨[u], [(kw, v)]⟩ = pure ((["self", kw] : List Str).zip [u, v]))
    (ok : ∀ fd, Fun K m q st f fd → FnOk P w K mg base CX0 k f fd ["self", kw] sp) : MeOk P w K mg base k C m ["self", kw] kw sp := by
  obtain ⟨fd, F⟩ := F
  refine ⟨f, fd, M, F.binds b, ok fd F, kbn_one fun s u v _ => ?_⟩
  obtain ⟨oc, od, kV, doc, pm, an, cdv, ct, osl, rfl, lk, hcd⟩ := F.ex
  exact .of_eq (bk kV doc pm an cdv ct u v)
theorem me_ok0 (M : Meth K C m f) (F : FunAt K m q st f)
    (b : ∀ (kV doc pm : Value) (an : Option Addr) (cdv ct : Value) (us : List Value), us.length = (["self"] : List Str).length → bindArgs (PySem.W.fnOf m q (defArgs st) (defBody st) (defScope st) .none kV doc pm an cdv ct) ⟨us, []⟩ = pure ((["self"] : List Str).zip us))
    (ok : ∀ fd, Fun K m q st f fd → FnOk P w K mg base CX0 k f fd ["self"] sp) : MeO0 P w K mg base k C m sp := by
  obtain ⟨fd, F⟩ := F
  exact ⟨f, fd, M, F.binds b, ok fd F⟩
theorem pr_ok (M : PropOf K C m p f) (F : FunAt K m q st f)
    (b : ∀ (kV doc pm : Value) (an : Option Addr) (cdv ct : Value) (us : List Value), us.length = (["self"] : List Str).length → bindArgs (PySem.W.fnOf m q (defArgs st) (defBody st) (defScope st) .none kV doc pm an cdv ct) ⟨us, []⟩ = pure ((["self"] : List Str).zip us))
    (ok : ∀ fd, Fun K m q st f fd → FnOk P w K mg base CX0 k f fd ["self"] sp) : PrOk P w K mg base k C m sp := by
  obtain ⟨fd, F⟩ := F
  exact ⟨p, f, fd, M, F.binds b, ok fd F⟩
theorem eq_ok (a : PySem.W.findIn K (.ref C) "__eq__" = some (some (.ref f))) (i : PySem.W.isFn K (.ref f) = true) (F : FunAt K "__eq__" q st f)
    (b : ∀ (kV doc pm : Value) (an : Option Addr) (cdv ct : Value) (us : List Value), us.length = (["self", "other"] : List Str).length → bindArgs (PySem.W.fnOf "__eq__" q (defArgs st) (defBody st) (defScope st) .none kV doc pm an cdv ct) ⟨us, []⟩ = pure ((["self", "other"] : List Str).zip us))
    (ok : ∀ fd, Fun K "__eq__" q st f fd → FnOk P w K mg base CX0 k f fd ["self", "other"] sp) : EqOk P w K mg base k C sp := by
  obtain ⟨fd, F⟩ := F
  exact ⟨f, fd, a, i, F.binds b, ok fd F⟩
theorem ln_ok (a : PySem.W.findIn K (.ref C) "__len__" = some (some (.ref f))) (i : PySem.W.isFn K (.ref f) = true) (F : FunAt K "__len__" q st f)
    (b : ∀ (kV doc pm : Value) (an : Option Addr) (cdv ct : Value) (us : List Value), us.length = (["self"] : List Str).length → bindArgs (PySem.W.fnOf "__len__" q (defArgs st) (defBody st) (defScope st) .none kV doc pm an cdv ct) ⟨us, []⟩ = pure ((["self"] : List Str).zip us))
    (ok : ∀ fd, Fun K "__len__" q st f fd → FnOk P w K mg base CX0 k f fd ["self"] sp) : LnOk P w K mg base k C sp := by
  obtain ⟨fd, F⟩ := F
  exact ⟨f, fd, a, i, F.binds b, ok fd F⟩
end
theorem fund_fr {K : PySem.W.Frag} {f Dk a0 a1 : Addr} {oc : Value} {od an : Option Addr} {osl : Array (Option Value)} {doc pm cdv ct : Value}
    (l : K.lookup f = some ⟨oc, od, .func (PySem.W.fnOf "__init__" "Frame.__init__" (defArgs sInit) (defBody sInit) (defScope sInit) .none (.ref Dk) doc pm an cdv ct), osl⟩) (c : PySem.W.codeIn K cdv "Frame.__init__" = true) (k : PySem.W.keepIn K (.ref f) = true)
    (i0 : PySem.W.nsIn K Dk "inner" = some (some (.ref a0))) (i1 : PySem.W.nsIn K Dk "outer" = some (some (.ref a1))) :
    ∃ fd, FunD K "__init__" "Frame.__init__" (defArgs sInit) (defBody sInit) (defScope sInit) [] [("inner", .ref a0), ("outer", .ref a1)] f fd :=
  ⟨_, ⟨_, _, _, _, _, _, _, _, _, _, rfl, l, c, .inl ⟨rfl, rfl⟩, .inr ⟨Dk, rfl, fun q hq => by
    rcases List.mem_cons.mp hq with rfl | hq
    · exact ⟨_, i0, rfl⟩
    · rw [List.mem_singleton.mp hq]
      exact ⟨_, i1, rfl⟩⟩⟩, k⟩
theorem fund_wb {K : PySem.W.Frag} {f Dk : Addr} {oc : Value} {od an : Option Addr} {osl : Array (Option Value)} {doc pm cdv ct : Value}
    (l : K.lookup f = some ⟨oc, od, .func (PySem.W.fnOf "__init__" "Web.__init__" (defArgs sWI) (defBody sWI) (defScope sWI) .none (.ref Dk) doc pm an cdv ct), osl⟩) (c : PySem.W.codeIn K cdv "Web.__init__" = true) (k : PySem.W.keepIn K (.ref f) = true)
    (i0 : PySem.W.nsIn K Dk "closed" = some (some (.bool false))) :
    ∃ fd, FunD K "__init__" "Web.__init__" (defArgs sWI) (defBody sWI) (defScope sWI) [] [("closed", .bl false)] f fd :=
  ⟨_, ⟨_, _, _, _, _, _, _, _, _, _, rfl, l, c, .inl ⟨rfl, rfl⟩, .inr ⟨Dk, rfl, fun q hq => by
    rw [List.mem_singleton.mp hq]
    exact ⟨_, i0, rfl⟩⟩⟩, k⟩
theorem two {α : Type} {l : List α} {n : Nat} (h : l.length = 2) : ∃ a b, l = [a, b] := match l, h with
  | [a, b], _ => ⟨a, b, rfl⟩
theorem one {α : Type} {l : List α} (h : l.length = 1) : ∃ a, l = [a] := match l, h with
  | [a], _ => ⟨a, rfl⟩
theorem zero {α : Type} {l : List α} (h : l.length = 0) : l = [] := List.length_eq_zero_iff.mp h
theorem vals_rev {vs : List V} {us : List Value} (r : Vals vs us) : Vals vs.reverse us.reverse := by
  induction r with
  | nil => exact .nil
  | cons h _ ih =>
    rw [List.reverse_cons, List.reverse_cons]
    exact ih.append (.cons h .nil)
section
variable {K : PySem.W.Frag} {f a0 a1 : Addr} {fd : FuncData}
theorem kbF (F : FunD K "__init__" "Frame.__init__" (defArgs sInit) (defBody sInit) (defScope sInit) [] [("inner", .ref a0), ("outer", .ref a1)] f fd) : ∃ g, KBn K fd pF 2 ["inner", "outer"] g J.gApp := by
  obtain ⟨mv, h⟩ := F.kbinds0 (ps := pF) 2 ["inner", "outer"] [] (fun us _ ws => us ++ ws) (by simp) (fun _ h => nomatch h) (fun r1 _ r2 => r1.append r2) (fun D doc pm an cdv ct us mv ws l1 l2 l3 => by
    obtain ⟨a, b, rfl⟩ := two (n := 2) l1
    obtain ⟨c, d, rfl⟩ := two (n := 2) l3
    obtain rfl := zero l2
    rfl)
  exact ⟨_, h⟩
theorem kbW (F : FunD K "__init__" "Web.__init__" (defArgs sWI) (defBody sWI) (defScope sWI) [] [("closed", .bl false)] f fd) : ∃ g, KBn K fd pW 2 ["closed"] g J.gApp := by
  obtain ⟨mv, h⟩ := F.kbinds0 (ps := pW) 2 ["closed"] [] (fun us _ ws => us ++ ws) (by simp) (fun _ h => nomatch h) (fun r1 _ r2 => r1.append r2) (fun D doc pm an cdv ct us mv ws l1 l2 l3 => by
    obtain ⟨a, b, rfl⟩ := two (n := 2) l1
    obtain ⟨c, rfl⟩ := one l3
    obtain rfl := zero l2
    rfl)
  exact ⟨_, h⟩
theorem kbR (F : FunD K "__init__" "Web.__init__" (defArgs sWI) (defBody sWI) (defScope sWI) [] [("closed", .bl false)] f fd) : ∃ g, KBn K fd pW 1 ["closed", "stretch"] g J.gRv := by
  obtain ⟨mv, h⟩ := F.kbinds0 (ps := pW) 1 ["closed", "stretch"] [] (fun us _ ws => us ++ ws.reverse) (by simp) (fun _ h => nomatch h) (fun r1 _ r2 => r1.append (vals_rev r2)) (fun D doc pm an cdv ct us mv ws l1 l2 l3 => by
    obtain ⟨a, rfl⟩ := one l1
    obtain ⟨c, d, rfl⟩ := two (n := 2) l3
    obtain rfl := zero l2
    rfl)
  exact ⟨_, h⟩
theorem bdW (F : FunD K "__init__" "Web.__init__" (defArgs sWI) (defBody sWI) (defScope sWI) [] [("closed", .bl false)] f fd) : ∃ ds, Vals [.bl false] ds ∧ Binds K fd pW ds :=
  F.binds0 (ps := pW) 2 (by simp) (by simp) fun D doc pm an cdv ct us ks l1 l2 => by
    obtain ⟨a, b, rfl⟩ := two (n := 2) l1
    obtain ⟨c, rfl⟩ := one l2
    exact ⟨_, _, _, _, _, _, rfl, rfl, rfl⟩
end
end K5

set_option maxHeartbeats 4000000
namespace K5
open PySem PySem.Spec PyProof.Rows L2 Tp G
theorem assemble {l : PySem.W.OpenLaw} {w : World} {K : PySem.W.Frag} {h : Heap} {mg : Str → Option Value} {fa CF CS CW fF fS fW DF DW a0 a1 eF_ eS_ eW_ l_ pc gc f0 f1 f2 f3 f4 f5 f6 f7 f8 f9 f10 f11 f12 f13 f14 f15 f16 f17 f18 f19 f20 f21 f22 f23 f24 f25 f26 f27 f28 f29 g_beside g_onward g_back g_seats g_is_seat g_are_seats g_cell g__at g_neighbours : Addr} {uw un ocF docF pmF cdvF ctF ocW docW pmW cdvW ctW : Value} {odF anF odW anW : Option Addr} {oslF oslW : Array (Option Value)} (X : K.In h) (G : h.Ns mainGlobals mg) (hfa : mg "law" = some (.ref fa))
    (aCF : PySem.W.nsIn K mainGlobals "Frame" = some (some (.ref CF)))
    (aCS : PySem.W.nsIn K mainGlobals "Stretch" = some (some (.ref CS)))
    (aCW : PySem.W.nsIn K mainGlobals "Web" = some (some (.ref CW)))
    (aw : PySem.W.nsIn K mainGlobals "WIDEST" = some (some uw))
    (rw : RelV (.int 3) uw)
    (an_ : PySem.W.nsIn K mainGlobals "GREATEST_NEED" = some (some un))
    (rn : RelV (.int 9) un)
    (v0 : PySem.W.nsIn K mainGlobals "is_integer" = some (some (.ref f0)))
    (u0 : FunAt K "is_integer" "is_integer" sIsInt f0)
    (v1 : PySem.W.nsIn K mainGlobals "is_place" = some (some (.ref f1)))
    (u1 : FunAt K "is_place" "is_place" sPlace f1)
    (v2 : PySem.W.nsIn K mainGlobals "_is_pair" = some (some (.ref f2)))
    (u2 : FunAt K "_is_pair" "_is_pair" sPair f2)
    (v3 : PySem.W.nsIn K mainGlobals "_are_outer" = some (some (.ref f3)))
    (u3 : FunAt K "_are_outer" "_are_outer" sOuter f3)
    (v4 : PySem.W.nsIn K mainGlobals "_are_inner" = some (some (.ref f4)))
    (u4 : FunAt K "_are_inner" "_are_inner" sInner f4)
    (v5 : PySem.W.nsIn K mainGlobals "is_cell" = some (some (.ref f5)))
    (u5 : FunAt K "is_cell" "is_cell" sCell f5)
    (v6 : PySem.W.nsIn K mainGlobals "is_column" = some (some (.ref f6)))
    (u6 : FunAt K "is_column" "is_column" sCol f6)
    (v7 : PySem.W.nsIn K mainGlobals "_law_tape" = some (some (.ref f7)))
    (u7 : FunAt K "_law_tape" "_law_tape" sTape f7)
    (v8 : PySem.W.nsIn K mainGlobals "_law_pick" = some (some (.ref f8)))
    (u8 : FunAt K "_law_pick" "_law_pick" sPick f8)
    (v9 : PySem.W.nsIn K mainGlobals "_law_one_of" = some (some (.ref f9)))
    (u9 : FunAt K "_law_one_of" "_law_one_of" sOne f9)
    (v10 : PySem.W.nsIn K mainGlobals "_law_shuffled" = some (some (.ref f10)))
    (u10 : FunAt K "_law_shuffled" "_law_shuffled" sShuf f10)
    (v11 : PySem.W.nsIn K mainGlobals "_law_grid" = some (some (.ref f11)))
    (u11 : FunAt K "_law_grid" "_law_grid" sGrid f11)
    (v12 : PySem.W.nsIn K mainGlobals "_law_known_plans" = some (some (.ref f12)))
    (u12 : FunAt K "_law_known_plans" "_law_known_plans" sKnown f12)
    (v13 : PySem.W.nsIn K mainGlobals "_law_drawn_plan" = some (some (.ref f13)))
    (u13 : FunAt K "_law_drawn_plan" "_law_drawn_plan" sDrawn f13)
    (v14 : PySem.W.nsIn K mainGlobals "_law_made_frame" = some (some (.ref f14)))
    (u14 : FunAt K "_law_made_frame" "_law_made_frame" sMade f14)
    (v15 : PySem.W.nsIn K mainGlobals "_law_unlike" = some (some (.ref f15)))
    (u15 : FunAt K "_law_unlike" "_law_unlike" sUn f15)
    (v16 : PySem.W.nsIn K mainGlobals "_law_any" = some (some (.ref f16)))
    (u16 : FunAt K "_law_any" "_law_any" sAny f16)
    (v17 : PySem.W.nsIn K mainGlobals "_law_drawn_cell" = some (some (.ref f17)))
    (u17 : FunAt K "_law_drawn_cell" "_law_drawn_cell" sDC f17)
    (v18 : PySem.W.nsIn K mainGlobals "_law_drawn_piles" = some (some (.ref f18)))
    (u18 : FunAt K "_law_drawn_piles" "_law_drawn_piles" sPil f18)
    (v19 : PySem.W.nsIn K mainGlobals "_law_drawn_net" = some (some (.ref f19)))
    (u19 : FunAt K "_law_drawn_net" "_law_drawn_net" sNet f19)
    (v20 : PySem.W.nsIn K mainGlobals "_law_made_band" = some (some (.ref f20)))
    (u20 : FunAt K "_law_made_band" "_law_made_band" sMB f20)
    (v21 : PySem.W.nsIn K mainGlobals "_law_made_web" = some (some (.ref f21)))
    (u21 : FunAt K "_law_made_web" "_law_made_web" sMW f21)
    (v22 : PySem.W.nsIn K mainGlobals "_law_spots" = some (some (.ref f22)))
    (u22 : FunAt K "_law_spots" "_law_spots" sSp f22)
    (v23 : PySem.W.nsIn K mainGlobals "_law_close" = some (some (.ref f23)))
    (u23 : FunAt K "_law_close" "_law_close" sClo f23)
    (v24 : PySem.W.nsIn K mainGlobals "_law_box" = some (some (.ref f24)))
    (u24 : FunAt K "_law_box" "_law_box" sBox f24)
    (v25 : PySem.W.nsIn K mainGlobals "_law_some_spots" = some (some (.ref f25)))
    (u25 : FunAt K "_law_some_spots" "_law_some_spots" sSome f25)
    (v26 : PySem.W.nsIn K mainGlobals "_law_are_spots" = some (some (.ref f26)))
    (u26 : FunAt K "_law_are_spots" "_law_are_spots" sASp f26)
    (v27 : PySem.W.nsIn K mainGlobals "_law_odd_spot" = some (some (.ref f27)))
    (u27 : FunAt K "_law_odd_spot" "_law_odd_spot" sOdd f27)
    (v28 : PySem.W.nsIn K mainGlobals "_law_seats_right" = some (some (.ref f28)))
    (u28 : FunAt K "_law_seats_right" "_law_seats_right" sRi f28)
    (v29 : PySem.W.nsIn K mainGlobals "law" = some (some (.ref f29)))
    (u29 : FunAt K "law" "law" sLaw f29)
    (mkF : Mk K CF fF)
    (liF : K.lookup fF = some ⟨ocF, odF, .func (PySem.W.fnOf "__init__" "Frame.__init__" (defArgs sInit) (defBody sInit) (defScope sInit) .none (.ref DF) docF pmF anF cdvF ctF), oslF⟩)
    (ciF : PySem.W.codeIn K cdvF "Frame.__init__" = true)
    (kiF : PySem.W.keepIn K (.ref fF) = true)
    (i0 : PySem.W.nsIn K DF "inner" = some (some (.ref a0)))
    (i1 : PySem.W.nsIn K DF "outer" = some (some (.ref a1)))
    (mkS : Mk K CS fS)
    (uS : FunAt K "__init__" "Stretch.__init__" sSI fS)
    (mkW : Mk K CW fW)
    (liW : K.lookup fW = some ⟨ocW, odW, .func (PySem.W.fnOf "__init__" "Web.__init__" (defArgs sWI) (defBody sWI) (defScope sWI) .none (.ref DW) docW pmW anW cdvW ctW), oslW⟩)
    (ciW : PySem.W.codeIn K cdvW "Web.__init__" = true)
    (kiW : PySem.W.keepIn K (.ref fW) = true)
    (i2 : PySem.W.nsIn K DW "closed" = some (some (.bool false)))
    (eF : PySem.W.findIn K (.ref CF) "__eq__" = some (some (.ref eF_)))
    (eiF : PySem.W.isFn K (.ref eF_) = true)
    (euF : FunAt K "__eq__" "Frame.__eq__" sEq eF_)
    (eS : PySem.W.findIn K (.ref CS) "__eq__" = some (some (.ref eS_)))
    (eiS : PySem.W.isFn K (.ref eS_) = true)
    (euS : FunAt K "__eq__" "Stretch.__eq__" sSE eS_)
    (eW : PySem.W.findIn K (.ref CW) "__eq__" = some (some (.ref eW_)))
    (eiW : PySem.W.isFn K (.ref eW_) = true)
    (euW : FunAt K "__eq__" "Web.__eq__" sWE eW_)
    (lS : PySem.W.findIn K (.ref CS) "__len__" = some (some (.ref l_)))
    (liS : PySem.W.isFn K (.ref l_) = true)
    (luS : FunAt K "__len__" "Stretch.__len__" sSL l_)
    (pC : PropOf K CS "columns" pc gc)
    (puC : FunAt K "columns" "Stretch.columns" sSC gc)
    (m_beside : Meth K CF "beside" g_beside)
    (mu_beside : FunAt K "beside" "Frame.beside" sBesD g_beside)
    (m_onward : Meth K CF "onward" g_onward)
    (mu_onward : FunAt K "onward" "Frame.onward" sOnD g_onward)
    (m_back : Meth K CF "back" g_back)
    (mu_back : FunAt K "back" "Frame.back" sBackD g_back)
    (m_seats : Meth K CW "seats" g_seats)
    (mu_seats : FunAt K "seats" "Web.seats" sWS g_seats)
    (m_is_seat : Meth K CW "is_seat" g_is_seat)
    (mu_is_seat : FunAt K "is_seat" "Web.is_seat" sWQ g_is_seat)
    (m_are_seats : Meth K CW "are_seats" g_are_seats)
    (mu_are_seats : FunAt K "are_seats" "Web.are_seats" sWA g_are_seats)
    (m_cell : Meth K CW "cell" g_cell)
    (mu_cell : FunAt K "cell" "Web.cell" sWC g_cell)
    (m__at : Meth K CW "_at" g__at)
    (mu__at : FunAt K "_at" "Web._at" sWT g__at)
    (m_neighbours : Meth K CW "neighbours" g_neighbours)
    (mu_neighbours : FunAt K "neighbours" "Web.neighbours" sWN g_neighbours)
    (fc : FrCls K CF)
    (sc : J.StCls K CS)
    (wc : J.WbCls K CW)
    (h2 : PySem.W.specialIn K (.builtin "object.__class__") "__get__" = some (some (.builtin "getset_descriptor.__get__")))
    (h3 : PySem.W.takesIn K (.builtin "object.__class__") = some true)
    (h1F : PySem.W.findIn K (.ref CF) "__class__" = some (some (.builtin "object.__class__")))
    (h4F : PySem.W.mroIn K CF (.type "object") = some true)
    (tF : tabFr K CF = true)
    (h1S : PySem.W.findIn K (.ref CS) "__class__" = some (some (.builtin "object.__class__")))
    (h4S : PySem.W.mroIn K CS (.type "object") = some true)
    (tS : tabFr K CS = true)
    (h1W : PySem.W.findIn K (.ref CW) "__class__" = some (some (.builtin "object.__class__")))
    (h4W : PySem.W.mroIn K CW (.type "object") = some true)
    (tW : tabFr K CW = true)
    (t1 : tabTy K = true)
    (t2 : tabSeq K = true)
    (t3 : tabSW K CS CW = true)
    (zint : PySem.W.nsIn K mainGlobals "int" = some none)
    (zbool : PySem.W.nsIn K mainGlobals "bool" = some none)
    (ztuple : PySem.W.nsIn K mainGlobals "tuple" = some none)
    (zlist : PySem.W.nsIn K mainGlobals "list" = some none)
    (zset : PySem.W.nsIn K mainGlobals "set" = some none)
    (zlen : PySem.W.nsIn K mainGlobals "len" = some none)
    (zisinstance : PySem.W.nsIn K mainGlobals "isinstance" = some none)
    (zsorted : PySem.W.nsIn K mainGlobals "sorted" = some none)
    (zall : PySem.W.nsIn K mainGlobals "all" = some none)
    (zrange : PySem.W.nsIn K mainGlobals "range" = some none)
    (zmax : PySem.W.nsIn K mainGlobals "max" = some none)
    (zmin : PySem.W.nsIn K mainGlobals "min" = some none)
    (zenumerate : PySem.W.nsIn K mainGlobals "enumerate" = some none)
    (zrepr : PySem.W.nsIn K mainGlobals "repr" = some none) :
    ∃ fd : FuncData, (∀ (s : Shared) (v : Value), BindsTo s fd ⟨[v], []⟩ [("script", v)]) ∧ ∀ base : Heap, K.In base → base.Ns mainGlobals mg → FnG l.prog w K mg base 11 fa fd ["script"] (J.spW (J.pLaw5 K)) := by
  have e : fa = f29 := Value.ref.inj (Option.some.inj (hfa.symm.trans (PySem.W.mg_of X G v29)))
  subst e
  obtain ⟨q1, q2⟩ := sw_of t3
  have T : Txt K mg (J.Cl.mk CF CS CW) := {
    kt := kt_of t1
    ks := ks_of t2
    fc := fc
    fis := fis_of fc.cl h1F h2 h3 h4F tF
    sc := sc
    sis := fis_of sc.cl h1S h2 h3 h4S tS
    wc := wc
    wis := fis_of wc.cl h1W h2 h3 h4W tW
    nfS := q1
    kfS := q2
    frame := PySem.W.mg_of X G aCF
    stretch := PySem.W.mg_of X G aCS
    web := PySem.W.mg_of X G aCW
    widest := ⟨uw, PySem.W.mg_of X G aw, rw⟩
    need := ⟨un, PySem.W.mg_of X G an_, rn⟩
    b_int := PySem.W.mg_none_of X G zint
    b_bool := PySem.W.mg_none_of X G zbool
    b_tuple := PySem.W.mg_none_of X G ztuple
    b_list := PySem.W.mg_none_of X G zlist
    b_set := PySem.W.mg_none_of X G zset
    b_len := PySem.W.mg_none_of X G zlen
    b_isinstance := PySem.W.mg_none_of X G zisinstance
    b_sorted := PySem.W.mg_none_of X G zsorted
    b_all := PySem.W.mg_none_of X G zall
    b_range := PySem.W.mg_none_of X G zrange
    b_max := PySem.W.mg_none_of X G zmax
    b_min := PySem.W.mg_none_of X G zmin
    b_enumerate := PySem.W.mg_none_of X G zenumerate
    b_repr := PySem.W.mg_none_of X G zrepr }
  obtain ⟨fdL, FL⟩ := u29
  refine ⟨fdL, fun s v => ?_, fun base hb hn => ?_⟩
  · obtain ⟨oc, od, kV, doc, pm, an, cdv, ct, osl, rfl, lk, hcd⟩ := FL.ex
    exact .of_eq rfl
  · have GI : DefOk l.prog w K mg base 1 "is_integer" ["value"] (spIsInt K) := def_ok X G v0 u0 (fun _ _ _ _ _ _ us hl => match us, hl with | [_], _ => rfl) fun _ F => ok_isInt F T
    have GPl : DefOk l.prog w K mg base 2 "is_place" ["value", "many"] (spPlace K) := def_ok X G v1 u1 (fun _ _ _ _ _ _ us hl => match us, hl with | [_, _], _ => rfl) fun _ F => ok_place F T GI
    have GPa : DefOk l.prog w K mg base 3 "_is_pair" ["value", "width"] (spPair K) := def_ok X G v2 u2 (fun _ _ _ _ _ _ us hl => match us, hl with | [_, _], _ => rfl) fun _ F => ok_pair F T GPl
    have GOu : DefOk l.prog w K mg base 4 "_are_outer" ["value", "width"] (spOuter K) := def_ok X G v3 u3 (fun _ _ _ _ _ _ us hl => match us, hl with | [_, _], _ => rfl) fun _ F => ok_outer F T GPa
    have GIn : DefOk l.prog w K mg base 5 "_are_inner" ["value", "width"] (spInner K) := def_ok X G v4 u4 (fun _ _ _ _ _ _ us hl => match us, hl with | [_, _], _ => rfl) fun _ F => ok_inner F T GOu
    have GCe : DefOk l.prog w K mg base 3 "is_cell" ["value"] (J.spW (J.pCell K)) := def_ok X G v5 u5 (fun _ _ _ _ _ _ us hl => match us, hl with | [_], _ => rfl) fun _ F => ok_cell F T GPl
    have GCo : DefOk l.prog w K mg base 4 "is_column" ["frame", "value"] (J.spW (J.pCol K (J.Cl.mk CF CS CW).F)) := def_ok X G v6 u6 (fun _ _ _ _ _ _ us hl => match us, hl with | [_, _], _ => rfl) fun _ F => ok_col F T GCe
    have GT : DefOk l.prog w K mg base 1 "_law_tape" ["script", "start"] (spTape K) := def_ok X G v7 u7 (fun _ _ _ _ _ _ us hl => match us, hl with | [_, _], _ => rfl) fun _ F => ok_tape F T
    have GP : DefOk l.prog w K mg base 1 "_law_pick" ["tape", "many"] (spPick) := def_ok X G v8 u8 (fun _ _ _ _ _ _ us hl => match us, hl with | [_, _], _ => rfl) fun _ F => ok_pick F T
    have GO : DefOk l.prog w K mg base 2 "_law_one_of" ["tape", "things"] (spOne K) := def_ok X G v9 u9 (fun _ _ _ _ _ _ us hl => match us, hl with | [_, _], _ => rfl) fun _ F => ok_one F T GP
    have GS : DefOk l.prog w K mg base 2 "_law_shuffled" ["tape", "things"] (spShuf K) := def_ok X G v10 u10 (fun _ _ _ _ _ _ us hl => match us, hl with | [_, _], _ => rfl) fun _ F => ok_shuf F T GP
    have GG : DefOk l.prog w K mg base 1 "_law_grid" ["many", "wide"] (spGrid K) := def_ok X G v11 u11 (fun _ _ _ _ _ _ us hl => match us, hl with | [_, _], _ => rfl) fun _ F => ok_grid F T
    have GK : DefOk l.prog w K mg base 2 "_law_known_plans" [] (spKnown K) := def_ok X G v12 u12 (fun _ _ _ _ _ _ us hl => match us, hl with | [], _ => rfl) fun _ F => ok_known F T GG
    have GD : DefOk l.prog w K mg base 3 "_law_drawn_plan" ["tape", "most"] (spDrawn K) := def_ok X G v13 u13 (fun _ _ _ _ _ _ us hl => match us, hl with | [_, _], _ => rfl) fun _ F => ok_drawn F T GP GO GG GK
    obtain ⟨fdF, FF⟩ := fund_fr liF ciF kiF i0 i1
    have FO : FrOk l.prog w K mg base (J.Cl.mk CF CS CW).F := ⟨fF, fdF, mkF, ok_init FF T GI GIn GOu, kbF FF⟩
    have SO : StOk l.prog w K mg base (J.Cl.mk CF CS CW) := by
      obtain ⟨fd2, F2⟩ := uS
      exact ⟨fS, fd2, mkS, ok_sI F2 T GCo, F2.binds (ps := pS) (fun _ _ _ _ _ _ us hl => match us, hl with | [_, _, _], _ => rfl)⟩
    have EF : EqOk l.prog w K mg base 1 (J.Cl.mk CF CS CW).F (spFEq K (J.Cl.mk CF CS CW).F) := eq_ok eF eiF euF (fun _ _ _ _ _ _ us hl => match us, hl with | [_, _], _ => rfl) fun _ F => ok_eq F T
    have ES : EqOk l.prog w K mg base 2 (J.Cl.mk CF CS CW).S (J.spW (J.pSEq K (J.Cl.mk CF CS CW))) := eq_ok eS eiS euS (fun _ _ _ _ _ _ us hl => match us, hl with | [_, _], _ => rfl) fun _ F => ok_sE F T EF
    have EW : EqOk l.prog w K mg base 3 (J.Cl.mk CF CS CW).W (J.spW (J.pWEq K (J.Cl.mk CF CS CW))) := eq_ok eW eiW euW (fun _ _ _ _ _ _ us hl => match us, hl with | [_, _], _ => rfl) fun _ F => ok_wE F T ES
    have LS : LnOk l.prog w K mg base 1 (J.Cl.mk CF CS CW).S (J.spW (J.pLen K (J.Cl.mk CF CS CW))) := ln_ok lS liS luS (fun _ _ _ _ _ _ us hl => match us, hl with | [_], _ => rfl) fun _ F => ok_sL F T
    have PC : PrOk l.prog w K mg base 1 (J.Cl.mk CF CS CW).S "columns" (J.spW (J.pCols K (J.Cl.mk CF CS CW))) := pr_ok pC puC (fun _ _ _ _ _ _ us hl => match us, hl with | [_], _ => rfl) fun _ F => ok_sC F T
    obtain ⟨fdW, FW⟩ := fund_wb liW ciW kiW i2
    have WO : WbOk l.prog w K mg base (J.Cl.mk CF CS CW) := ⟨fW, fdW, mkW, ok_wI FW T LS, kbW FW, kbR FW, bdW FW⟩
    have MB : MeOk l.prog w K mg base 1 (J.Cl.mk CF CS CW).F "beside" ["self", "row"] "row" (sBes K (J.Cl.mk CF CS CW).F) := me_ok m_beside mu_beside (fun _ _ _ _ _ _ us hl => match us, hl with | [_, _], _ => rfl) (fun _ _ _ _ _ _ _ _ => rfl) fun _ F => ok_bes F T
    have MO : MeOk l.prog w K mg base 1 (J.Cl.mk CF CS CW).F "onward" ["self", "row"] "row" (sOn K (J.Cl.mk CF CS CW).F) := me_ok m_onward mu_onward (fun _ _ _ _ _ _ us hl => match us, hl with | [_, _], _ => rfl) (fun _ _ _ _ _ _ _ _ => rfl) fun _ F => ok_on F T
    have MK : MeOk l.prog w K mg base 1 (J.Cl.mk CF CS CW).F "back" ["self", "row"] "row" (sBack K (J.Cl.mk CF CS CW).F) := me_ok m_back mu_back (fun _ _ _ _ _ _ us hl => match us, hl with | [_, _], _ => rfl) (fun _ _ _ _ _ _ _ _ => rfl) fun _ F => ok_back F T
    have MS : MeO0 l.prog w K mg base 3 (J.Cl.mk CF CS CW).W "seats" (J.spF (J.pSeats K (J.Cl.mk CF CS CW))) := me_ok0 m_seats mu_seats (fun _ _ _ _ _ _ us hl => match us, hl with | [_], _ => rfl) fun _ F => ok_wS F T LS
    have MQ : MeOk l.prog w K mg base 3 (J.Cl.mk CF CS CW).W "is_seat" ["self", "value"] "value" (J.spW (J.pSeat K (J.Cl.mk CF CS CW))) := me_ok m_is_seat mu_is_seat (fun _ _ _ _ _ _ us hl => match us, hl with | [_, _], _ => rfl) (fun _ _ _ _ _ _ _ _ => rfl) fun _ F => ok_wQ F T LS GPl
    have MA : MeOk l.prog w K mg base 4 (J.Cl.mk CF CS CW).W "are_seats" ["self", "value"] "value" (J.spW (J.pAreV K (J.Cl.mk CF CS CW))) := me_ok m_are_seats mu_are_seats (fun _ _ _ _ _ _ us hl => match us, hl with | [_, _], _ => rfl) (fun _ _ _ _ _ _ _ _ => rfl) fun _ F => ok_wA F T MQ
    have MC : MeOk l.prog w K mg base 4 (J.Cl.mk CF CS CW).W "cell" ["self", "seat"] "seat" (J.spW (J.pCellAt K (J.Cl.mk CF CS CW))) := me_ok m_cell mu_cell (fun _ _ _ _ _ _ us hl => match us, hl with | [_, _], _ => rfl) (fun _ _ _ _ _ _ _ _ => rfl) fun _ F => ok_wC F T MQ PC
    have MT : MeOk l.prog w K mg base 3 (J.Cl.mk CF CS CW).W "_at" ["self", "place"] "place" (J.spW (J.pAt K (J.Cl.mk CF CS CW))) := me_ok m__at mu__at (fun _ _ _ _ _ _ us hl => match us, hl with | [_, _], _ => rfl) (fun _ _ _ _ _ _ _ _ => rfl) fun _ F => ok_wT F T LS
    have MN : MeOk l.prog w K mg base 4 (J.Cl.mk CF CS CW).W "neighbours" ["self", "seat"] "seat" (J.spF (J.pNear K (J.Cl.mk CF CS CW))) := me_ok m_neighbours mu_neighbours (fun _ _ _ _ _ _ us hl => match us, hl with | [_, _], _ => rfl) (fun _ _ _ _ _ _ _ _ => rfl) fun _ F => ok_wN F T MQ MT MB MO MK
    have GM : DefOk l.prog w K mg base 8 "_law_made_frame" ["plan"] (spMade K (J.Cl.mk CF CS CW).F) := def_ok X G v14 u14 (fun _ _ _ _ _ _ us hl => match us, hl with | [_], _ => rfl) fun _ F => ok_made F T FO
    have GU : DefOk l.prog w K mg base 1 "_law_unlike" ["things"] (J.spW (J.pUn K)) := def_ok X G v15 u15 (fun _ _ _ _ _ _ us hl => match us, hl with | [_], _ => rfl) fun _ F => ok_un F T
    have GA : DefOk l.prog w K mg base 3 "_law_any" ["tape"] (J.spW (J.pAny K)) := def_ok X G v16 u16 (fun _ _ _ _ _ _ us hl => match us, hl with | [_], _ => rfl) fun _ F => ok_any F T GO
    have GDC : DefOk l.prog w K mg base 3 "_law_drawn_cell" ["tape"] (J.spW (J.pDC K)) := def_ok X G v17 u17 (fun _ _ _ _ _ _ us hl => match us, hl with | [_], _ => rfl) fun _ F => ok_dc F T GP GO
    have GDP : DefOk l.prog w K mg base 4 "_law_drawn_piles" ["tape", "plan", "many"] (J.spW (J.pPiles K)) := def_ok X G v18 u18 (fun _ _ _ _ _ _ us hl => match us, hl with | [_, _, _], _ => rfl) fun _ F => ok_pil F T GDC
    have GN : DefOk l.prog w K mg base 5 "_law_drawn_net" ["tape", "most", "many"] (J.spW (J.pNet K)) := def_ok X G v19 u19 (fun _ _ _ _ _ _ us hl => match us, hl with | [_, _, _], _ => rfl) fun _ F => ok_net F T GP GD GDP
    have GMB : DefOk l.prog w K mg base 9 "_law_made_band" ["plan", "piles"] (J.spW (J.pMB K (J.Cl.mk CF CS CW))) := def_ok X G v20 u20 (fun _ _ _ _ _ _ us hl => match us, hl with | [_, _], _ => rfl) fun _ F => ok_mb F T GM SO
    have GMW : DefOk l.prog w K mg base 10 "_law_made_web" ["net"] (J.spW (J.pMW K (J.Cl.mk CF CS CW))) := def_ok X G v21 u21 (fun _ _ _ _ _ _ us hl => match us, hl with | [_], _ => rfl) fun _ F => ok_mw F T GMB WO
    have GG2 : DefOk l.prog w K mg base 1 "_law_grid" ["many", "wide"] (J.spW (J.pGrid K)) := def_ok X G v11 u11 (fun _ _ _ _ _ _ us hl => match us, hl with | [_, _], _ => rfl) fun _ F => ok_gr2 F T
    have GSp : DefOk l.prog w K mg base 2 "_law_spots" ["net"] (J.spW (J.pSpots K)) := def_ok X G v22 u22 (fun _ _ _ _ _ _ us hl => match us, hl with | [_], _ => rfl) fun _ F => ok_sp F T GG2
    have GCl : DefOk l.prog w K mg base 1 "_law_close" ["net", "spot"] (J.spW (J.pClose K)) := def_ok X G v23 u23 (fun _ _ _ _ _ _ us hl => match us, hl with | [_, _], _ => rfl) fun _ F => ok_clo F T
    have GBo : DefOk l.prog w K mg base 1 "_law_box" ["net", "spot"] (J.spW (J.pBox K)) := def_ok X G v24 u24 (fun _ _ _ _ _ _ us hl => match us, hl with | [_, _], _ => rfl) fun _ F => ok_box F T
    have GSo : DefOk l.prog w K mg base 3 "_law_some_spots" ["tape", "net", "many"] (J.spW (J.pSome K)) := def_ok X G v25 u25 (fun _ _ _ _ _ _ us hl => match us, hl with | [_, _, _], _ => rfl) fun _ F => ok_some F T GP GS GSp
    have GOd : DefOk l.prog w K mg base 4 "_law_odd_spot" ["tape", "net"] (J.spW (J.pOdd K)) := def_ok X G v27 u27 (fun _ _ _ _ _ _ us hl => match us, hl with | [_, _], _ => rfl) fun _ F => ok_odd F T GO GA
    have GR : DefOk l.prog w K mg base 5 "_law_seats_right" ["net", "web"] (J.spW (J.pRight K (J.Cl.mk CF CS CW))) := def_ok X G v28 u28 (fun _ _ _ _ _ _ us hl => match us, hl with | [_, _], _ => rfl) fun _ F => ok_ri F T GSp GCl GBo MQ MC MN MS
    have GAS : DefG l.prog w K mg base 4 "_law_are_spots" ["net", "value_here"] (J.spW (J.pAreSp K)) := def_okG X G v26 u26 (fun _ _ _ _ _ _ us hl => match us, hl with | [_, _], _ => rfl) fun _ F => ok_asp F T GSp GU
    exact ok_law FL T GT GP GO GA GN GMB GMW GSp GSo GOd GR GAS MQ MA ES EW WO
theorem sp_law {K : PySem.W.Frag} {H : Hp} {a : Addr} {ns : List Int} (hl : ns.length ≤ 63) (hb : ∀ z ∈ ns, Builtin.Int.intBits z ≤ 1048576) (hS : SqL K H a (ns.map V.int)) : J.spW (J.pLaw5 K) [.ref a] H (fun v _ => v = .bl true) E0 :=
  ⟨[J.aScr K ns], fun A => J.Le A (J.aB K true), [], ⟨_, ns, rfl, J.le_rfl, hl, J.le_rfl⟩, fun p hp => (nomatch hp), .cons ⟨a, rfl, by rw [J.dels_nil]; exact ⟨hS, hl, hb⟩⟩ .nil, fun A lA v H' g p => J.dp_bl (lA _ _ p)⟩
end K5

set_option maxHeartbeats 4000000
open PySem PySem.W PyProof.Rows in
set_option maxRecDepth 100000 in
set_option maxHeartbeats 0 in
theorem PySem.Challenge.cw_sparkrows_k05_webs_told_holds : PySem.Challenge.rw_sparkrows_k05_webs_told.Holds := by
  w_on; o_law; k_head; (case hw => w_witness2)
  k_fill
  refine Tp.walkLaw (l := PySem.Challenge.rw_sparkrows_k05_webs_told) (n := 63) (k := 11) (x := "script") rfl (by decide) rfl ⟨rfl, by decide, by decide⟩ (fun w h Y => PySem.W.kIn_of Y) (fun K => G.J.spW (G.J.pLaw5 K)) ?F ?S
  case S =>
    intro K H a ns hl hb hO hS
    exact K5.sp_law hl hb hS
  case F =>
    intro w mg fa h KX G hmg
    refine' K5.assemble KX G hmg ?aCF ?aCS ?aCW ?aw ?rw ?an_ ?rn ?v0 ?u0 ?v1 ?u1 ?v2 ?u2 ?v3 ?u3 ?v4 ?u4 ?v5 ?u5 ?v6 ?u6 ?v7 ?u7 ?v8 ?u8 ?v9 ?u9 ?v10 ?u10 ?v11 ?u11 ?v12 ?u12 ?v13 ?u13 ?v14 ?u14 ?v15 ?u15 ?v16 ?u16 ?v17 ?u17 ?v18 ?u18 ?v19 ?u19 ?v20 ?u20 ?v21 ?u21 ?v22 ?u22 ?v23 ?u23 ?v24 ?u24 ?v25 ?u25 ?v26 ?u26 ?v27 ?u27 ?v28 ?u28 ?v29 ?u29 ?mkF ?liF ?ciF ?kiF ?i0 ?i1 ?mkS ?uS ?mkW ?liW ?ciW ?kiW ?i2 ?eF ?eiF ?euF ?eS ?eiS ?euS ?eW ?eiW ?euW ?lS ?liS ?luS ?pC ?puC ?m_beside ?mu_beside ?m_onward ?mu_onward ?m_back ?mu_back ?m_seats ?mu_seats ?m_is_seat ?mu_is_seat ?m_are_seats ?mu_are_seats ?m_cell ?mu_cell ?m__at ?mu__at ?m_neighbours ?mu_neighbours ?fc ?sc ?wc ?h2 ?h3 ?h1F ?h4F ?tF ?h1S ?h4S ?tS ?h1W ?h4W ?tW ?t1 ?t2 ?t3 ?zint ?zbool ?ztuple ?zlist ?zset ?zlen ?zisinstance ?zsorted ?zall ?zrange ?zmax ?zmin ?zenumerate ?zrepr
    (case aCF => k_is)
    (case aCS => k_is)
    (case aCW => k_is)
    (case aw => k_is)
    (case rw => exact ⟨_, rfl⟩)
    (case an_ => k_is)
    (case rn => exact ⟨_, rfl⟩)
    (case v0 => k_is)
    (case u0 => (refine' Exists.intro _ (L2.fun_mk ?hu0_l ?hu0_c ?hu0_k); (case hu0_l => k_is); (case hu0_c => k_is); (case hu0_k => k_is)))
    (case v1 => k_is)
    (case u1 => (refine' Exists.intro _ (L2.fun_mk ?hu1_l ?hu1_c ?hu1_k); (case hu1_l => k_is); (case hu1_c => k_is); (case hu1_k => k_is)))
    (case v2 => k_is)
    (case u2 => (refine' Exists.intro _ (L2.fun_mk ?hu2_l ?hu2_c ?hu2_k); (case hu2_l => k_is); (case hu2_c => k_is); (case hu2_k => k_is)))
    (case v3 => k_is)
    (case u3 => (refine' Exists.intro _ (L2.fun_mk ?hu3_l ?hu3_c ?hu3_k); (case hu3_l => k_is); (case hu3_c => k_is); (case hu3_k => k_is)))
    (case v4 => k_is)
    (case u4 => (refine' Exists.intro _ (L2.fun_mk ?hu4_l ?hu4_c ?hu4_k); (case hu4_l => k_is); (case hu4_c => k_is); (case hu4_k => k_is)))
    (case v5 => k_is)
    (case u5 => (refine' Exists.intro _ (L2.fun_mk ?hu5_l ?hu5_c ?hu5_k); (case hu5_l => k_is); (case hu5_c => k_is); (case hu5_k => k_is)))
    (case v6 => k_is)
    (case u6 => (refine' Exists.intro _ (L2.fun_mk ?hu6_l ?hu6_c ?hu6_k); (case hu6_l => k_is); (case hu6_c => k_is); (case hu6_k => k_is)))
    (case v7 => k_is)
    (case u7 => (refine' Exists.intro _ (L2.fun_mk ?hu7_l ?hu7_c ?hu7_k); (case hu7_l => k_is); (case hu7_c => k_is); (case hu7_k => k_is)))
    (case v8 => k_is)
    (case u8 => (refine' Exists.intro _ (L2.fun_mk ?hu8_l ?hu8_c ?hu8_k); (case hu8_l => k_is); (case hu8_c => k_is); (case hu8_k => k_is)))
    (case v9 => k_is)
    (case u9 => (refine' Exists.intro _ (L2.fun_mk ?hu9_l ?hu9_c ?hu9_k); (case hu9_l => k_is); (case hu9_c => k_is); (case hu9_k => k_is)))
    (case v10 => k_is)
    (case u10 => (refine' Exists.intro _ (L2.fun_mk ?hu10_l ?hu10_c ?hu10_k); (case hu10_l => k_is); (case hu10_c => k_is); (case hu10_k => k_is)))
    (case v11 => k_is)
    (case u11 => (refine' Exists.intro _ (L2.fun_mk ?hu11_l ?hu11_c ?hu11_k); (case hu11_l => k_is); (case hu11_c => k_is); (case hu11_k => k_is)))
    (case v12 => k_is)
    (case u12 => (refine' Exists.intro _ (L2.fun_mk ?hu12_l ?hu12_c ?hu12_k); (case hu12_l => k_is); (case hu12_c => k_is); (case hu12_k => k_is)))
    (case v13 => k_is)
    (case u13 => (refine' Exists.intro _ (L2.fun_mk ?hu13_l ?hu13_c ?hu13_k); (case hu13_l => k_is); (case hu13_c => k_is); (case hu13_k => k_is)))
    (case v14 => k_is)
    (case u14 => (refine' Exists.intro _ (L2.fun_mk ?hu14_l ?hu14_c ?hu14_k); (case hu14_l => k_is); (case hu14_c => k_is); (case hu14_k => k_is)))
    (case v15 => k_is)
    (case u15 => (refine' Exists.intro _ (L2.fun_mk ?hu15_l ?hu15_c ?hu15_k); (case hu15_l => k_is); (case hu15_c => k_is); (case hu15_k => k_is)))
    (case v16 => k_is)
    (case u16 => (refine' Exists.intro _ (L2.fun_mk ?hu16_l ?hu16_c ?hu16_k); (case hu16_l => k_is); (case hu16_c => k_is); (case hu16_k => k_is)))
    (case v17 => k_is)
    (case u17 => (refine' Exists.intro _ (L2.fun_mk ?hu17_l ?hu17_c ?hu17_k); (case hu17_l => k_is); (case hu17_c => k_is); (case hu17_k => k_is)))
    (case v18 => k_is)
    (case u18 => (refine' Exists.intro _ (L2.fun_mk ?hu18_l ?hu18_c ?hu18_k); (case hu18_l => k_is); (case hu18_c => k_is); (case hu18_k => k_is)))
    (case v19 => k_is)
    (case u19 => (refine' Exists.intro _ (L2.fun_mk ?hu19_l ?hu19_c ?hu19_k); (case hu19_l => k_is); (case hu19_c => k_is); (case hu19_k => k_is)))
    (case v20 => k_is)
    (case u20 => (refine' Exists.intro _ (L2.fun_mk ?hu20_l ?hu20_c ?hu20_k); (case hu20_l => k_is); (case hu20_c => k_is); (case hu20_k => k_is)))
    (case v21 => k_is)
    (case u21 => (refine' Exists.intro _ (L2.fun_mk ?hu21_l ?hu21_c ?hu21_k); (case hu21_l => k_is); (case hu21_c => k_is); (case hu21_k => k_is)))
    (case v22 => k_is)
    (case u22 => (refine' Exists.intro _ (L2.fun_mk ?hu22_l ?hu22_c ?hu22_k); (case hu22_l => k_is); (case hu22_c => k_is); (case hu22_k => k_is)))
    (case v23 => k_is)
    (case u23 => (refine' Exists.intro _ (L2.fun_mk ?hu23_l ?hu23_c ?hu23_k); (case hu23_l => k_is); (case hu23_c => k_is); (case hu23_k => k_is)))
    (case v24 => k_is)
    (case u24 => (refine' Exists.intro _ (L2.fun_mk ?hu24_l ?hu24_c ?hu24_k); (case hu24_l => k_is); (case hu24_c => k_is); (case hu24_k => k_is)))
    (case v25 => k_is)
    (case u25 => (refine' Exists.intro _ (L2.fun_mk ?hu25_l ?hu25_c ?hu25_k); (case hu25_l => k_is); (case hu25_c => k_is); (case hu25_k => k_is)))
    (case v26 => k_is)
    (case u26 => (refine' Exists.intro _ (L2.fun_mk ?hu26_l ?hu26_c ?hu26_k); (case hu26_l => k_is); (case hu26_c => k_is); (case hu26_k => k_is)))
    (case v27 => k_is)
    (case u27 => (refine' Exists.intro _ (L2.fun_mk ?hu27_l ?hu27_c ?hu27_k); (case hu27_l => k_is); (case hu27_c => k_is); (case hu27_k => k_is)))
    (case v28 => k_is)
    (case u28 => (refine' Exists.intro _ (L2.fun_mk ?hu28_l ?hu28_c ?hu28_k); (case hu28_l => k_is); (case hu28_c => k_is); (case hu28_k => k_is)))
    (case v29 => k_is)
    (case u29 => (refine' Exists.intro _ (L2.fun_mk ?hu29_l ?hu29_c ?hu29_k); (case hu29_l => k_is); (case hu29_c => k_is); (case hu29_k => k_is)))
    (case mkF => (refine' ⟨?hmkF_p1, ?hmkF_p2, ?hmkF_p3, ?hmkF_p4⟩; (case hmkF_p2 => k_is); (case hmkF_p1 => k_is); (case hmkF_p3 => k_is); (case hmkF_p4 => k_is)))
    (case liF => k_is)
    (case ciF => k_is)
    (case kiF => k_is)
    (case i0 => k_is)
    (case i1 => k_is)
    (case mkS => (refine' ⟨?hmkS_p1, ?hmkS_p2, ?hmkS_p3, ?hmkS_p4⟩; (case hmkS_p2 => k_is); (case hmkS_p1 => k_is); (case hmkS_p3 => k_is); (case hmkS_p4 => k_is)))
    (case uS => (refine' Exists.intro _ (L2.fun_mk ?huS_l ?huS_c ?huS_k); (case huS_l => k_is); (case huS_c => k_is); (case huS_k => k_is)))
    (case mkW => (refine' ⟨?hmkW_p1, ?hmkW_p2, ?hmkW_p3, ?hmkW_p4⟩; (case hmkW_p2 => k_is); (case hmkW_p1 => k_is); (case hmkW_p3 => k_is); (case hmkW_p4 => k_is)))
    (case liW => k_is)
    (case ciW => k_is)
    (case kiW => k_is)
    (case i2 => k_is)
    (case eF => k_is)
    (case eiF => k_is)
    (case euF => (refine' Exists.intro _ (L2.fun_mk ?heuF_l ?heuF_c ?heuF_k); (case heuF_l => k_is); (case heuF_c => k_is); (case heuF_k => k_is)))
    (case eS => k_is)
    (case eiS => k_is)
    (case euS => (refine' Exists.intro _ (L2.fun_mk ?heuS_l ?heuS_c ?heuS_k); (case heuS_l => k_is); (case heuS_c => k_is); (case heuS_k => k_is)))
    (case eW => k_is)
    (case eiW => k_is)
    (case euW => (refine' Exists.intro _ (L2.fun_mk ?heuW_l ?heuW_c ?heuW_k); (case heuW_l => k_is); (case heuW_c => k_is); (case heuW_k => k_is)))
    (case lS => k_is)
    (case liS => k_is)
    (case luS => (refine' Exists.intro _ (L2.fun_mk ?hluS_l ?hluS_c ?hluS_k); (case hluS_l => k_is); (case hluS_c => k_is); (case hluS_k => k_is)))
    (case pC => (refine' ⟨?hpC_p1, ?hpC_p2, ?hpC_p3, ?hpC_p4⟩; (case hpC_p1 => k_is); (case hpC_p2 => k_is); (case hpC_p3 => k_is); (case hpC_p4 => exact ⟨_, by k_is⟩)))
    (case puC => (refine' Exists.intro _ (L2.fun_mk ?hpuC_l ?hpuC_c ?hpuC_k); (case hpuC_l => k_is); (case hpuC_c => k_is); (case hpuC_k => k_is)))
    (case m_beside => (refine' ⟨?hm_beside_p1, ?hm_beside_p2, ?hm_beside_p3⟩; (case hm_beside_p1 => k_is); (case hm_beside_p2 => k_is); (case hm_beside_p3 => k_is)))
    (case mu_beside => (refine' Exists.intro _ (L2.fun_mk ?hmu_beside_l ?hmu_beside_c ?hmu_beside_k); (case hmu_beside_l => k_is); (case hmu_beside_c => k_is); (case hmu_beside_k => k_is)))
    (case m_onward => (refine' ⟨?hm_onward_p1, ?hm_onward_p2, ?hm_onward_p3⟩; (case hm_onward_p1 => k_is); (case hm_onward_p2 => k_is); (case hm_onward_p3 => k_is)))
    (case mu_onward => (refine' Exists.intro _ (L2.fun_mk ?hmu_onward_l ?hmu_onward_c ?hmu_onward_k); (case hmu_onward_l => k_is); (case hmu_onward_c => k_is); (case hmu_onward_k => k_is)))
    (case m_back => (refine' ⟨?hm_back_p1, ?hm_back_p2, ?hm_back_p3⟩; (case hm_back_p1 => k_is); (case hm_back_p2 => k_is); (case hm_back_p3 => k_is)))
    (case mu_back => (refine' Exists.intro _ (L2.fun_mk ?hmu_back_l ?hmu_back_c ?hmu_back_k); (case hmu_back_l => k_is); (case hmu_back_c => k_is); (case hmu_back_k => k_is)))
    (case m_seats => (refine' ⟨?hm_seats_p1, ?hm_seats_p2, ?hm_seats_p3⟩; (case hm_seats_p1 => k_is); (case hm_seats_p2 => k_is); (case hm_seats_p3 => k_is)))
    (case mu_seats => (refine' Exists.intro _ (L2.fun_mk ?hmu_seats_l ?hmu_seats_c ?hmu_seats_k); (case hmu_seats_l => k_is); (case hmu_seats_c => k_is); (case hmu_seats_k => k_is)))
    (case m_is_seat => (refine' ⟨?hm_is_seat_p1, ?hm_is_seat_p2, ?hm_is_seat_p3⟩; (case hm_is_seat_p1 => k_is); (case hm_is_seat_p2 => k_is); (case hm_is_seat_p3 => k_is)))
    (case mu_is_seat => (refine' Exists.intro _ (L2.fun_mk ?hmu_is_seat_l ?hmu_is_seat_c ?hmu_is_seat_k); (case hmu_is_seat_l => k_is); (case hmu_is_seat_c => k_is); (case hmu_is_seat_k => k_is)))
    (case m_are_seats => (refine' ⟨?hm_are_seats_p1, ?hm_are_seats_p2, ?hm_are_seats_p3⟩; (case hm_are_seats_p1 => k_is); (case hm_are_seats_p2 => k_is); (case hm_are_seats_p3 => k_is)))
    (case mu_are_seats => (refine' Exists.intro _ (L2.fun_mk ?hmu_are_seats_l ?hmu_are_seats_c ?hmu_are_seats_k); (case hmu_are_seats_l => k_is); (case hmu_are_seats_c => k_is); (case hmu_are_seats_k => k_is)))
    (case m_cell => (refine' ⟨?hm_cell_p1, ?hm_cell_p2, ?hm_cell_p3⟩; (case hm_cell_p1 => k_is); (case hm_cell_p2 => k_is); (case hm_cell_p3 => k_is)))
    (case mu_cell => (refine' Exists.intro _ (L2.fun_mk ?hmu_cell_l ?hmu_cell_c ?hmu_cell_k); (case hmu_cell_l => k_is); (case hmu_cell_c => k_is); (case hmu_cell_k => k_is)))
    (case m__at => (refine' ⟨?hm__at_p1, ?hm__at_p2, ?hm__at_p3⟩; (case hm__at_p1 => k_is); (case hm__at_p2 => k_is); (case hm__at_p3 => k_is)))
    (case mu__at => (refine' Exists.intro _ (L2.fun_mk ?hmu__at_l ?hmu__at_c ?hmu__at_k); (case hmu__at_l => k_is); (case hmu__at_c => k_is); (case hmu__at_k => k_is)))
    (case m_neighbours => (refine' ⟨?hm_neighbours_p1, ?hm_neighbours_p2, ?hm_neighbours_p3⟩; (case hm_neighbours_p1 => k_is); (case hm_neighbours_p2 => k_is); (case hm_neighbours_p3 => k_is)))
    (case mu_neighbours => (refine' Exists.intro _ (L2.fun_mk ?hmu_neighbours_l ?hmu_neighbours_c ?hmu_neighbours_k); (case hmu_neighbours_l => k_is); (case hmu_neighbours_c => k_is); (case hmu_neighbours_k => k_is)))
    (case fc => (refine' ⟨⟨?hfc_p1, ?hfc_p2, ?hfc_p3, ?hfc_p4⟩, ?hfc_p5, ?hfc_p6, ?hfc_p7⟩ <;> first | k_is | (unfold L2.NoAttr; k_is)))
    (case sc => (refine' ⟨⟨?hsc_p1, ?hsc_p2, ?hsc_p3, ?hsc_p4⟩, ?hsc_p5, ?hsc_p6⟩ <;> first | k_is | (unfold L2.NoAttr; k_is)))
    (case wc => (refine' ⟨⟨?hwc_p1, ?hwc_p2, ?hwc_p3, ?hwc_p4⟩, ?hwc_p5, ?hwc_p6⟩ <;> first | k_is | (unfold L2.NoAttr; k_is)))
    (case h2 => k_is)
    (case h3 => k_is)
    (case h1F => k_is)
    (case h4F => k_is)
    (case tF => kernel_rfl)
    (case h1S => k_is)
    (case h4S => k_is)
    (case tS => kernel_rfl)
    (case h1W => k_is)
    (case h4W => k_is)
    (case tW => kernel_rfl)
    (case t1 => kernel_rfl)
    (case t2 => kernel_rfl)
    (case t3 => kernel_rfl)
    (case zint => k_is)
    (case zbool => k_is)
    (case ztuple => k_is)
    (case zlist => k_is)
    (case zset => k_is)
    (case zlen => k_is)
    (case zisinstance => k_is)
    (case zsorted => k_is)
    (case zall => k_is)
    (case zrange => k_is)
    (case zmax => k_is)
    (case zmin => k_is)
    (case zenumerate => k_is)
    (case zrepr => k_is)
