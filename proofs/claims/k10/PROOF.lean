import PyProof.Rows.All
import Wide.All
import OpenK.AllK
import Wide.FinOn
import HandS.ForMost
import HandS.Wide
import HandS.IsInst
import HandS.More
import HandS.Conv
import HandS.Codes
import KE.KxText
import PySem.Challenge.RW_passproven_k10_conditions_hold
set_option Elab.async false
set_option linter.all false
set_option maxRecDepth 100000
namespace PK
open PySem L2
def topS (i : Nat) : Stmt := PySem.Challenge.pw_passproven_k10_conditions_hold.main.body.getD i (.Pass ⟨0, 0, 0, 0⟩)
/-- xs[j] of a name -/
theorem vIx {K : PySem.W.Frag} {σ : L2.St} {H : Hp} {Q : VK} {i : Nat} {p : Addr} {xs : List V} {j : Int} {v : V} (h : σ[i]? = some (some (.ref p))) (hl : H p = some (.lst xs)) (ha : atI xs j = some v) (q : Q v H) :
    tOp (rIxL K) (tVar i) (tC (.int j)) σ H Q := ⟨_, h, p, xs, j, v, rfl, rfl, SqL.of hl, ha, q⟩
structure Txt (K : PySem.W.Frag) (mg : Str → Option Value) : Prop where
  z_len : mg "len" = none
  z_int : mg "int" = none
  z_range : mg "range" = none
  z_min : mg "min" = none
  z_str : mg "str" = none
  z_tuple : mg "tuple" = none
  z_sorted : mg "sorted" = none
  z_isinstance : mg "isinstance" = none
  z_any : mg "any" = none
  z_all : mg "all" = none
  z_list : mg "list" = none
  z_bool : mg "bool" = none
/-- all but what stands at l is as it was -/
def Keep (l : Addr) (H H' : Hp) : Prop := ∀ b o, b ≠ l → H b = some o → H' b = some o
def PoolR (H : Hp) (l c : Addr) (pos : Prop) : Prop := ∃ (ns : List Int) (i r s : Int), H l = some (.lst [.ref c, .int i, .int r, .int s]) ∧ H c = some (.lst (ns.map V.int)) ∧ c ≠ l ∧ (∀ n ∈ ns, 0 ≤ n) ∧ 0 ≤ i ∧ 0 ≤ r ∧ 0 ≤ s ∧ s < 2147483647 ∧ (pos → 0 < r)
abbrev Pool (H : Hp) (l c : Addr) : Prop := PoolR H l c False
/-- from H to H' the pool at l was drawn from, all else is kept -/
structure Ext (l c : Addr) (H H' : Hp) : Prop where
  keep : Keep l H H'
  pool : Pool H' l c
theorem Pool.ne {H : Hp} {l c p : Addr} (P : Pool H l c) (h : H p = none) : p ≠ l ∧ p ≠ c := by
  obtain ⟨ns, i, r, s, hl, hc, _⟩ := P
  exact ⟨(ne_of_none hl h).symm, (ne_of_none hc h).symm⟩
theorem Pool.upd {H : Hp} {l c p : Addr} {o : HO} (P : Pool H l c) (h1 : p ≠ l) (h2 : p ≠ c) : Pool (upd H p o) l c := by
  obtain ⟨ns, i, r, s, hl, hc, z⟩ := P
  exact ⟨ns, i, r, s, by rw [upd_ne h1.symm]; exact hl, by rw [upd_ne h2.symm]; exact hc, z⟩
theorem Ext.refl {l c : Addr} {H : Hp} (P : Pool H l c) : Ext l c H H := ⟨fun _ _ _ h => h, P⟩
theorem Ext.trans {l c : Addr} {H H1 H2 : Hp} (x : Ext l c H H1) (y : Ext l c H1 H2) : Ext l c H H2 := ⟨fun b o hb h => y.keep b o hb (x.keep b o hb h), y.pool⟩
/-- what was free ahead of the draws was free -/
theorem Ext.free {l c p : Addr} {H H' : Hp} (x : Ext l c H H') (P : Pool H l c) (h : H' p = none) : H p = none := by
  cases e : H p with
  | none => rfl
  | some o =>
    by_cases hb : p = l
    · subst hb
      obtain ⟨ns, i, r, s, hl, _⟩ := x.pool
      rw [hl] at h; cases h
    · rw [x.keep p o hb e] at h; cases h
theorem Ext.upd {l c p : Addr} {H H' : Hp} {o : HO} (x : Ext l c H H') (P : Pool H l c) (h : H p = none) : Ext l c H (L2.upd H' p o) :=
  ⟨fun b u hb hu => by rw [upd_ne (ne_of_none hu h)]; exact x.keep b u hb hu, x.pool.upd (P.ne h).1 (P.ne h).2⟩
theorem Ext.new {l c p : Addr} {H H' : Hp} {o : HO} (x : Ext l c H H') (P : Pool H l c) (h : H' p = none) : Ext l c H (L2.upd H' p o) := x.upd P (x.free P h)
theorem Ext.seqT {l c a : Addr} {K : PySem.W.Frag} {H H' : Hp} {xs : List V} (x : Ext l c H H') (P : Pool H l c) (h : SqT K H a xs) : SqT K H' a xs := by
  have nl : ∀ {o : HO}, H a = some o → (∀ ys, o ≠ .lst ys) → a ≠ l := fun e d z => by
    subst z
    obtain ⟨ns, i, r, s, hl, _⟩ := P
    rw [hl] at e; cases e
    exact d _ rfl
  rcases h with (h | ⟨o, h⟩) | h
  · exact .inl (.inl (x.keep _ _ (nl h (fun _ => HO.noConfusion)) h))
  · exact .inl (.inr ⟨o, x.keep _ _ (nl h (fun _ => HO.noConfusion)) h⟩)
  · exact .inr h
def spTake (n : Nat) : Sp := fun vs H Q _ => ∃ (l c : Addr) (m : Int) (p : Prop), vs = [.ref l, .int m] ∧ PoolR H l c p ∧ 0 < m ∧ m < 18446744073709551616 ∧ (2 ≤ n ∨ (1 ≤ n ∧ p)) ∧
  ∀ (d : Int) (H' : Hp), 0 ≤ d → d < m → Ext l c H H' → Q (.int d) H'
theorem vTake {σ : L2.St} {H : Hp} {Q : VK} {i : Nat} {m : Int} {l c : Addr} (h : σ[i]? = some (some (.ref l))) (P : Pool H l c) (h0 : 0 < m) (hm : m < 18446744073709551616)
    (q : ∀ (d : Int) (H' : Hp), 0 ≤ d → d < m → Ext l c H H' → Q (.int d) H') : tCall (spTake 2) [] E0 (tCons (tVar i) (tCons (tC (.int m)) tNil)) σ H Q :=
  ⟨_, h, l, c, m, False, rfl, P, h0, hm, .inl (Nat.le_refl 2), q⟩
section
variable {P : Program} {w : World} {K : PySem.W.Frag} {mg : Str → Option Value} {base : Heap}
abbrev s_law_take : Stmt := topS 11
theorem sc_law_take : FnScope ["pool", "many", "digit", "cell", "mixed"] ["pool", "many"] (defScope s_law_take) := ⟨rfl, rfl, rfl, by decide +kernel, rfl, by decide +kernel, by decide +kernel⟩
-- slots: 0:pool 1:many 2:digit 3:cell 4:mixed
theorem ok_take {n : Nat} {f : Addr} {fd : FuncData} (F : Fun K "_law_take" "_law_take" s_law_take f fd) (T : Txt K mg) (C_law_take : C8.Cal P w K mg base n "_law_take" (spTake n) []) :
    FnOk P w K mg base CX0 (n + 1) f fd ["pool", "many"] (spTake (n + 1)) := by
  refine F.ok sc_law_take (fun vs H Q E h => ?_) (fun cdv A outer s H vs Q E hr h => ?_)
  · obtain ⟨l, c, m, p, rfl, _⟩ := h
    rfl
  obtain ⟨l, c, m, p, rfl, ⟨ns, i, r, st, hl, hc, hcl, hns, hi, h0r, hs, hs2, hp⟩, hm, hm2, hn, q⟩ := h
  have hk : n ≤ n := Nat.le_refl n
  refine ⟨_, (pss_cons (ps_if (pt_cmpR op_gt (pe_ix ix_list (pv 0) pe_int (fun _ _ => rfl)) pe_int (nomark _)) (pss_cons (ps_set (i := 2) sc_law_take.nd rfl (Or.inl rfl) (pe_op op_mod (pe_callTy call_int1 (by rfl) T.z_int (by decide +kernel) (pa_cons (pe_ix ix_list (pv 0) pe_int (fun _ _ => rfl)) pa_nil)) (pv 1)))
    (pss_cons (ps_asg (pe_op op_fdivW (pe_ix ix_list (pv 0) pe_int (fun _ _ => rfl)) (pv 1)) (pg_sub (pv 0) pe_int set_list))
    (pss_one (ps_ret (pv 2))))) pss_nil)
    (pss_cons (ps_set (i := 3) sc_law_take.nd rfl (Or.inl rfl) pe_int)
    (C8.pss_cut (ps_if (pt_cmpR op_lt (pe_ix ix_list (pv 0) pe_int (fun _ _ => rfl)) (pe_callB call_len_seq (by rfl) T.z_len (by decide +kernel) (pa_cons (pe_ix ix_list (pv 0) pe_int (fun _ _ => rfl)) pa_nil)) (nomark _)) (pss_one (ps_set (i := 3) sc_law_take.nd rfl (Or.inl rfl) (pe_ix ix_list (pe_ix ix_list (pv 0) pe_int (fun _ _ => rfl)) (pe_ix ix_list (pv 0) pe_int (fun _ _ => rfl)) (fun _ _ => rfl)))) pss_nil)
    (pss_cons (ps_asg (pe_op op_add (pe_ix ix_list (pv 0) pe_int (fun _ _ => rfl)) pe_int) (pg_sub (pv 0) pe_int set_list))
    (pss_cons (ps_if (pt_cmpR op_ge (pv 3) (pe_op op_pow pe_int pe_int) (nomark _)) (pss_cons (ps_asg (pe_op op_fdivW (pv 3) pe_int) (pg_sub (pv 0) pe_int set_list))
    (pss_one (ps_ret (C8.pe_c C_law_take hr hk rfl (pa_cons (pv 0) (pa_cons (pv 1) pa_nil)))))) pss_nil)
    (pss_cons (ps_asg (pe_op op_mod (pe_callTy call_int1 (by rfl) T.z_int (by decide +kernel) (pa_cons (pe_op op_add (pe_op op_add (pe_op op_mul (pe_ix ix_list (pv 0) pe_int (fun _ _ => rfl)) pe_int) (pe_op op_mul (pv 3) pe_int)) (pe_op op_mul (pe_ix ix_list (pv 0) pe_int (fun _ _ => rfl)) pe_int)) pa_nil)) pe_int) (pg_sub (pv 0) pe_int set_list))
    (pss_cons (ps_set (i := 4) sc_law_take.nd rfl (Or.inl rfl) (pe_op op_mod (pe_callTy call_int1 (by rfl) T.z_int (by decide +kernel) (pa_cons (pe_op op_add (pe_op op_add (pe_op op_mul (pe_ix ix_list (pv 0) pe_int (fun _ _ => rfl)) (pe_ix ix_list (pv 0) pe_int (fun _ _ => rfl))) (pe_op op_mul (pe_ix ix_list (pv 0) pe_int (fun _ _ => rfl)) pe_int)) pe_int) pa_nil)) pe_int))
    (pss_one (ps_ret (pe_op op_mod (pe_callTy call_int1 (by rfl) T.z_int (by decide +kernel) (pa_cons (pe_op op_fdivW (pv 4) pe_int) pa_nil)) (pv 1))))))))))), ?_⟩
  have lgm : m.natAbs.log2 < 9000 := (wide_div (i := 0) (b := 64) hm (by rw [show (2 : Nat) ^ 64 = 18446744073709551616 from rfl]; omega) (by decide) (by decide)).2
  have lg2 : (2 : Int).natAbs.log2 < 9000 := by decide
  have ext : ∀ i' r' s' : Int, 0 ≤ i' → 0 ≤ r' → 0 ≤ s' → s' < 2147483647 → ∀ pp : Prop, (pp → 0 < r') → Keep l H (upd H l (.lst [.ref c, .int i', .int r', .int s'])) ∧ PoolR (upd H l (.lst [.ref c, .int i', .int r', .int s'])) l c pp := fun i' r' s' h1 h2 h3 h4 pp hpp =>
    ⟨fun b o hb hbo => by rw [upd_ne hb]; exact hbo, ns, i', r', s', upd_same, by rw [upd_ne hcl]; exact hc, hcl, hns, h1, h2, h3, h4, hpp⟩
  -- pool[2] > 0
  refine vIx rfl hl rfl ⟨_, _, rfl, rfl, _, rfl, ?_⟩
  refine ite2 (fun e => ?_) (fun e => ?_)
  · have e' : 0 < r := of_decide_eq_true e
    refine ⟨_, rfl, l, _, _, _, rfl, rfl, SqL.of hl, rfl, .inl ⟨_, rfl, _, rfl, _, _, rfl, rfl, hm, ?_⟩⟩
    refine vIx rfl hl rfl ⟨_, rfl, _, _, rfl, rfl, ⟨hm, lgm⟩, ?_⟩
    refine ⟨_, rfl, l, _, 2, 2, rfl, rfl, hl, rfl, _, rfl, ?_⟩
    have z := ext i (r / m) st hi (Int.ediv_nonneg h0r (by omega)) hs hs2 False False.elim
    exact q _ _ (Int.emod_nonneg _ (by omega)) (Int.emod_lt_of_pos _ hm) ⟨z.1, z.2⟩
  · have e0 : r = 0 := by have := of_decide_eq_false (Bool.eq_false_iff.mpr e); omega
    subst e0
    have n2 : 1 ≤ n := by
      rcases hn with hn | ⟨_, hn⟩
      · omega
      · exact absurd (hp hn) (by omega)
    refine ⟨fun σ' H' => ∃ z : Int, 0 ≤ z ∧ σ' = [some (.ref l), some (.int m), none, some (.int z), none] ∧ H' = H, ?_, ?_⟩
    · refine vIx rfl hl rfl (vIx rfl hl rfl ⟨c, _, rfl, .inl (SqL.of hc), _, _, rfl, rfl, _, rfl, ?_⟩)
      refine ite2 (fun e1 => ?_) (fun e1 => ⟨0, by omega, rfl, rfl⟩)
      have e1' : i < ((ns.map V.int).length : Nat) := of_decide_eq_true e1
      rw [List.length_map] at e1'
      obtain ⟨j, rfl⟩ : ∃ j : Nat, i = j := ⟨i.toNat, by omega⟩
      have hj : j < ns.length := by omega
      have g : (ns.map V.int)[j]? = some (.int ns[j]) := by rw [List.getElem?_map, List.getElem?_eq_getElem hj]; rfl
      refine vIx rfl hl rfl (vIx rfl hl rfl ⟨c, _, _, _, rfl, rfl, SqL.of hc, atI_nat g, ?_⟩)
      exact ⟨_, hns _ (List.getElem_mem hj), rfl, rfl⟩
    · rintro σ' H' ⟨z, hz, rfl, rfl⟩
      refine vIx rfl hl rfl ⟨_, _, rfl, rfl, _, rfl, l, _, 1, 1, rfl, rfl, hl, rfl, ?_⟩
      refine ⟨_, rfl, _, _, rfl, rfl, ⟨by decide, by decide, by decide⟩, _, _, rfl, rfl, _, rfl, ?_⟩
      refine ite2 (fun e1 => ?_) (fun e1 => ?_)
      · have e1' : (10 : Int) ^ 18 ≤ z := of_decide_eq_true e1
        refine ⟨_, rfl, _, _, rfl, rfl, ⟨by decide, lg2⟩, _, rfl, l, _, 2, 2, rfl, rfl, upd_same, rfl, ?_⟩
        refine ⟨_, rfl, _, rfl, ?_⟩
        have zz := ext (i + 1) (z / 2) st (by omega) (Int.ediv_nonneg hz (by omega)) hs hs2 True (fun _ => by omega)
        refine ⟨l, c, m, True, rfl, ?_, hm, hm2, .inr ⟨n2, trivial⟩, fun d H' h1 h2 x => q d H' h1 h2 ⟨?_, x.pool⟩⟩
        · show PoolR (upd (upd H' l _) l _) l c True
          rw [upd_upd]
          exact zz.2
        · intro b o hb hbo
          refine x.keep b o hb ?_
          show upd (upd _ l _) l _ b = _
          rw [upd_upd, upd_ne hb]
          exact hbo
      · have c1 : CMul st 48271 := .inr ⟨by decide, by decide⟩
        have c2 : CMul z 69621 := .inr ⟨by decide, by decide⟩
        have c3 : CMul (i + 1) 613 := .inr ⟨by decide, by decide⟩
        refine vIx rfl upd_same rfl ⟨_, _, rfl, rfl, c1, _, rfl, _, _, rfl, rfl, c2, _, _, rfl, rfl, vIx rfl upd_same rfl ⟨_, _, rfl, rfl, c3, _, _, rfl, rfl, .inl ⟨_, rfl, _, _, rfl, rfl, (show (0 : Int) < 2147483647 by decide), ?_⟩⟩⟩
        refine ⟨_, rfl, l, _, 3, 3, rfl, rfl, upd_same, rfl, ?_⟩
        have b1 : 0 ≤ (st * 48271 + z * 69621 + (i + 1) * 613) % 2147483647 := Int.emod_nonneg _ (by decide)
        have b2 : (st * 48271 + z * 69621 + (i + 1) * 613) % 2147483647 < 2147483647 := Int.emod_lt_of_pos _ (by decide)
        have c4 : CMul ((st * 48271 + z * 69621 + (i + 1) * 613) % 2147483647) ((st * 48271 + z * 69621 + (i + 1) * 613) % 2147483647) := .inr ⟨by omega, by omega⟩
        have c5 : CMul ((st * 48271 + z * 69621 + (i + 1) * 613) % 2147483647) 7919 := .inr ⟨by decide, by decide⟩
        refine vIx rfl upd_same rfl (vIx rfl upd_same rfl ⟨_, _, rfl, rfl, c4, vIx rfl upd_same rfl ⟨_, _, rfl, rfl, c5, _, _, rfl, rfl, _, _, rfl, rfl, .inl ⟨_, rfl, _, _, rfl, rfl, (show (0 : Int) < 1000000007 by decide), ?_⟩⟩⟩)
        have c6 : CDivW ((((st * 48271 + z * 69621 + (i + 1) * 613) % 2147483647) * ((st * 48271 + z * 69621 + (i + 1) * 613) % 2147483647) + ((st * 48271 + z * 69621 + (i + 1) * 613) % 2147483647) * 7919 + 104729) % 1000000007) 3 := ⟨by decide, by decide⟩
        refine ⟨_, rfl, _, _, rfl, rfl, c6, .inl ⟨_, rfl, _, rfl, _, _, rfl, rfl, hm, ?_⟩⟩
        have zz := ext (i + 1) 0 ((st * 48271 + z * 69621 + (i + 1) * 613) % 2147483647) (by omega) (by omega) b1 b2 False False.elim
        refine q _ _ (Int.emod_nonneg _ (by omega)) (Int.emod_lt_of_pos _ hm) ⟨?_, ?_⟩
        · show Keep l _ (upd (upd _ l _) l _)
          rw [upd_upd]
          exact zz.1
        · show Pool (upd (upd _ l _) l _) l c
          rw [upd_upd]
          exact zz.2
end
end PK
namespace PK
open PySem L2
/-! ### words -/
abbrev LET : Str := "abcdefghijklmnopqrstuvwxyz"
abbrev OTH : Str := "abcdefghijklmnopqrstuvwxyz0123456789_"
abbrev BARRED : List Str := ["get", "set", "plus", "minus", "new", "read", "write", "put"]
theorem let_len : LET.cps.toList.length = 26 := by decide +kernel
theorem oth_len : OTH.cps.toList.length = 37 := by decide +kernel
theorem line_big : (16777216 : Nat) ≤ sizeLine := by rw [sizeLine_eq]; decide
theorem small {n : Nat} (h : n ≤ 16777216) : n ≤ sizeLine := Nat.le_trans h line_big
theorem smallL {n : Nat} (h : n < 16777216) : n < sizeLine := Nat.lt_of_lt_of_le h line_big
theorem len_list (z : Str) : z.length = z.cps.toList.length := by unfold Str.length; simp
theorem yes_ {A B : Hp → Prop} {σ : L2.St} {H : Hp} (h : A H) : tYes σ H fun b H3 => if b = true then A H3 else B H3 := by
  show if true = true then A H else B H
  exact iteT h
/-- a drawn sign of a text -/
theorem strAt (z : Str) {n : Nat} (hz : z.cps.toList.length = n) (hn : n ≤ 1000) {d : Int} {H : Hp} {Q : VK} (h0 : 0 ≤ d) (h1 : d < (n : Int)) (q : ∀ s : Nat, s ∈ z.cps.toList → Q (.str ⟨#[s]⟩) H) : rIxS (.str z) (.int d) H Q := by
  obtain ⟨j, rfl⟩ : ∃ j : Nat, d = j := ⟨d.toNat, by omega⟩
  have hj : j < z.cps.toList.length := by omega
  exact ⟨z, _, _, rfl, rfl, by rw [len_list, hz]; exact small (by omega), atI_nat (List.getElem?_eq_getElem hj), q _ (List.getElem_mem hj)⟩
/-- the j-th word that is tried for the k-th place -/
def cand (j k : Nat) : Str := ("w" : Str) ++ (toString (j : Int) : Str) ++ ("_" : Str) ++ (toString (k : Int) : Str)
def pre (j : Nat) : Str := ("w" : Str) ++ (toString (j : Int) : Str) ++ ("_" : Str)
theorem pre_len : ∀ j, j < 27 → (pre j).length ≤ 4 := by decide +kernel
theorem str_len : ∀ j : Nat, j < 27 → ((toString (j : Int) : String) : Str).length ≤ 2 := by decide +kernel
theorem pre_inj : ∀ i, i < 27 → ∀ j, j < 27 → pre i = pre j → i = j := by decide +kernel
theorem app_cancel {a b t : Str} (h : a ++ t = b ++ t) : a = b := by
  have e : a.cps ++ t.cps = b.cps ++ t.cps := congrArg Str.cps h
  have e2 : a.cps.toList ++ t.cps.toList = b.cps.toList ++ t.cps.toList := by
    have := congrArg Array.toList e
    simpa using this
  exact Str.ext' (Array.toList_inj.mp (List.append_cancel_right e2))
theorem cand_inj {i j k : Nat} (hi : i < 27) (hj : j < 27) (h : cand i k = cand j k) : i = j := pre_inj i hi j hj (app_cancel h)
theorem cand_len {j k : Nat} (hj : j < 27) (hk : k < 27) : (cand j k).length ≤ 6 := by
  have h1 := pre_len j hj
  have h2 := str_len k hk
  show (pre j ++ _).length ≤ 6
  rw [Str.length_append]
  omega
theorem cand_bar (j k : Nat) : cand j k ∉ BARRED := by
  have h1 : 95 ∈ (cand j k).cps.toList := by
    show 95 ∈ ((((("w" : Str).cps ++ ((toString (j : Int) : String) : Str).cps) ++ ("_" : Str).cps) ++ ((toString (k : Int) : String) : Str).cps)).toList
    have e : ("_" : Str).cps.toList = [95] := by decide +kernel
    simp only [Array.toList_append, e, List.mem_append, List.mem_singleton]
    exact .inl (.inr trivial)
  have h2 : ∀ b ∈ BARRED, 95 ∉ b.cps.toList := by decide +kernel
  exact fun m => h2 _ m h1
theorem inj_le : ∀ (l m : List Str), l.Nodup → (∀ x ∈ l, x ∈ m) → l.length ≤ m.length
  | [], _, _, _ => Nat.zero_le _
  | x :: r, m, hn, hm => by
    obtain ⟨h1, h2⟩ := List.nodup_cons.mp hn
    have hx := hm x List.mem_cons_self
    have ih := inj_le r (m.erase x) h2 fun y hy => (List.mem_erase_of_ne (fun e => h1 (by rw [← e]; exact hy))).mpr (hm y (List.mem_cons_of_mem _ hy))
    rw [List.length_erase_of_mem hx] at ih
    have : 0 < m.length := List.length_pos_of_mem hx
    rw [List.length_cons]
    omega
/-- not all of m tried words stand in a list of fewer than m -/
theorem pigeon {m k : Nat} {ws : List Str} (hm : m < 27) (hl : ws.length < m) (h : ∀ t, t < m → cand t k ∈ ws) : False := by
  have n : ((List.range m).map fun t => cand t k).Nodup := by
    rw [List.Nodup, List.pairwise_map]
    refine List.Pairwise.imp_of_mem ?_ List.nodup_range
    intro a b ha hb hab e
    exact hab (cand_inj (Nat.lt_trans (List.mem_range.mp ha) hm) (Nat.lt_trans (List.mem_range.mp hb) hm) e)
  have := inj_le _ ws n fun x hx => by
    obtain ⟨t, ht, rfl⟩ := List.mem_map.mp hx
    exact h t (List.mem_range.mp ht)
  rw [List.length_map, List.length_range] at this
  omega
theorem inV_str (u : Str) : ∀ ws : List Str, inV (.str u) (ws.map V.str) = decide (u ∈ ws)
  | [] => by simp [inV]
  | x :: r => by
    have ih := inV_str u r
    unfold inV at ih ⊢
    rw [List.map_cons, List.any_cons, ih]
    show ((x == u) || decide (u ∈ r)) = _
    by_cases e : x = u
    · subst e; simp
    · have e2 : (x == u) = false := by simpa using e
      rw [e2, Bool.false_or]
      by_cases h : u ∈ r
      · simp [h]
      · simp [h, Ne.symm e]
theorem flat_strs (ws : List Str) : (ws.map V.str).all flatV = true := by
  rw [List.all_eq_true]
  intro x hx
  obtain ⟨s, _, rfl⟩ := List.mem_map.mp hx
  rfl
/-- signs of words -/
def one (s : Nat) : Str := ⟨#[s]⟩
def Ones (ss : List Nat) : Prop := ∀ s ∈ ss, s ∈ OTH.cps.toList
theorem join_one : ∀ ss : List Nat, (Str.join "" (ss.map one)).cps.toList = ss
  | [] => rfl
  | [s] => rfl
  | s :: t :: r => by
    have ih := join_one (t :: r)
    have e : ("" : Str).cps.toList = [] := by decide +kernel
    show ((one s).cps ++ ("" : Str).cps ++ (Str.join "" ((t :: r).map one)).cps).toList = _
    rw [Array.toList_append, Array.toList_append, ih, e]
    rfl
theorem txt_join (ss : List Nat) : (Txt.join "" (ss.map one)).cps.toList = ss := by
  show (Builtin.Str.glued ("" : Str) (ss.map one)).cps.toList = ss
  rw [StrLaws.glued_eq_join]
  exact join_one ss
theorem one_sum (ss : List Nat) : ((ss.map one).map (·.length)).sum = ss.length := by
  induction ss with
  | nil => rfl
  | cons s r ih =>
    rw [List.map_cons, List.map_cons, List.sum_cons, ih, List.length_cons]
    show 1 + r.length = _
    omega
/-- a word: signs that words have, the first one a letter -/
structure Wd (x : Str) : Prop where
  lo : 1 ≤ x.length
  hi : x.length ≤ 12
  hd : ∃ s r, x.cps.toList = s :: r ∧ s ∈ LET.cps.toList
  al : ∀ s ∈ x.cps.toList, s ∈ OTH.cps.toList
theorem Wd.of {x : Str} {s : Nat} {r : List Nat} (e : x.cps.toList = s :: r) (hs : s ∈ LET.cps.toList) (ho : Ones r) (hl : r.length ≤ 11) : Wd x where
  lo := by rw [len_list, e, List.length_cons]; omega
  hi := by rw [len_list, e, List.length_cons]; omega
  hd := ⟨s, r, e, hs⟩
  al := fun z hz => by
    rw [e] at hz
    rcases List.mem_cons.mp hz with h | h
    · rw [h]
      have : ∀ s ∈ LET.cps.toList, s ∈ OTH.cps.toList := by decide +kernel
      exact this s hs
    · exact ho z h
theorem pre_wd : ∀ j, j < 27 → ∀ s ∈ (pre j).cps.toList, s ∈ OTH.cps.toList := by decide +kernel
theorem num_wd : ∀ j : Nat, j < 27 → ∀ s ∈ ((toString (j : Int) : String) : Str).cps.toList, s ∈ OTH.cps.toList := by decide +kernel
theorem pre_hd : ∀ j, j < 27 → (pre j).cps.toList[0]? = some 119 := by decide +kernel
theorem cand_wd {j k : Nat} (hj : j < 27) (hk : k < 27) : Wd (cand j k) := by
  have e : (cand j k).cps.toList = (pre j).cps.toList ++ ((toString (k : Int) : String) : Str).cps.toList := by
    show ((pre j).cps ++ ((toString (k : Int) : String) : Str).cps).toList = _
    rw [Array.toList_append]
  have h0 := pre_hd j hj
  cases e1 : (pre j).cps.toList with
  | nil => rw [e1] at h0; cases h0
  | cons s r =>
    rw [e1] at h0 e
    have hs : s = 119 := Option.some.inj h0
    refine Wd.of (s := s) (r := r ++ ((toString (k : Int) : String) : Str).cps.toList) e (by rw [hs]; decide +kernel) (fun z hz => ?_) ?_
    · rcases List.mem_append.mp hz with h | h
      · exact pre_wd j hj z (by rw [e1]; exact List.mem_cons_of_mem _ h)
      · exact num_wd k hk z h
    · have h1 := pre_len j hj
      have h2 := str_len k hk
      rw [len_list] at h1 h2
      rw [e1, List.length_cons] at h1
      rw [List.length_append]
      omega
theorem let_oth : ∀ s ∈ LET.cps.toList, s ∈ OTH.cps.toList := by decide +kernel
theorem ixN_of {n : Nat} {k : Int} (h0 : 0 ≤ k) (h1 : k < (n : Int)) : ixN n k = some k.toNat := by
  unfold ixN
  rw [if_pos h0, if_pos h1]
theorem Ones.set {row : List Nat} (h : Ones row) {s : Nat} (hs : s ∈ OTH.cps.toList) (j : Nat) : Ones (row.set j s) := fun x hx => by
  rcases List.mem_or_eq_of_mem_set hx with h1 | h1
  · exact h x h1
  · rw [h1]; exact hs
/-- the signs of a word, one of them another letter -/
theorem set_hd {s0 : Nat} {r : List Nat} (h0 : s0 ∈ LET.cps.toList) (hr : Ones r) {s : Nat} (hs : s ∈ LET.cps.toList) (j : Nat) : ∃ s1 r1, (s0 :: r).set j s = s1 :: r1 ∧ s1 ∈ LET.cps.toList ∧ Ones r1 ∧ r1.length = r.length := by
  cases j with
  | zero => exact ⟨s, r, rfl, hs, hr, rfl⟩
  | succ j => exact ⟨s0, r.set j s, rfl, h0, hr.set (let_oth _ hs) j, List.length_set ..⟩
end PK
namespace PK
open PySem L2
/-- many different words -/
def spWords : Sp := fun vs H Q _ => ∃ (l c : Addr) (m : Nat), vs = [.ref l, .int (m : Int)] ∧ Pool H l c ∧ m ≤ 25 ∧
  ∀ (H' : Hp) (p : Addr) (ws : List Str), Ext l c H H' → H p = none → H' p = some (.lst (ws.map V.str)) → ws.length = m → ws.Nodup → (∀ x ∈ ws, Wd x ∧ x ∉ BARRED) → Q (.ref p) H'
section
variable {P : Program} {w : World} {K : PySem.W.Frag} {mg : Str → Option Value} {base : Heap}
abbrev s_law_words : Stmt := topS 12
theorem sc_law_words : FnScope ["pool", "many", "letters", "others", "barred", "size", "at", "alike", "k", "base", "words", "row", "word", "more", "j"] ["pool", "many"] (defScope s_law_words) := ⟨rfl, rfl, rfl, by decide +kernel, rfl, by decide +kernel, by decide +kernel⟩
-- slots: 0:pool(cell) 1:many 2:letters 3:others(cell) 4:barred 5:size 6:at 7:alike 8:k 9:base 10:words 11:row 12:word 13:more 14:j(comp)
theorem ok_words {f : Addr} {fd : FuncData} (F : Fun K "_law_words" "_law_words" s_law_words f fd) (T : Txt K mg) (C_law_take : C8.Cal P w K mg base 2 "_law_take" (spTake 2) []) :
    FnOk P w K mg base CX0 3 f fd ["pool", "many"] spWords := by
  refine F.ok sc_law_words (fun vs H Q E h => ?_) (fun cdv A outer s H vs Q E hr h => ?_)
  · obtain ⟨l, c, m, rfl, _⟩ := h
    rfl
  obtain ⟨l, c, m, rfl, P0, hm, q⟩ := h
  refine ⟨_, (pss_cons (ps_set (i := 2) sc_law_words.nd rfl (Or.inl rfl) pe_str)
    (pss_cons (ps_set (i := 3) sc_law_words.nd rfl (Or.inr rfl) pe_str)
    (pss_cons (ps_set (i := 4) sc_law_words.nd rfl (Or.inl rfl) (pe_tup (pa_cons pe_str (pa_cons pe_str (pa_cons pe_str (pa_cons pe_str (pa_cons pe_str (pa_cons pe_str (pa_cons pe_str (pa_cons pe_str pa_nil))))))))))
    (pss_cons (ps_set (i := 5) sc_law_words.nd rfl (Or.inl rfl) (C8.pe_c C_law_take hr (by decide) rfl (pa_cons (pv 0) (pa_cons pe_int pa_nil))))
    (pss_cons (ps_set (i := 6) sc_law_words.nd rfl (Or.inl rfl) (C8.pe_c C_law_take hr (by decide) rfl (pa_cons (pv 0) (pa_cons (pe_op op_add (pv 5) pe_int) pa_nil))))
    (pss_cons (ps_set (i := 7) sc_law_words.nd rfl (Or.inl rfl) (C8.pe_c C_law_take hr (by decide) rfl (pa_cons (pv 0) (pa_cons pe_int pa_nil))))
    (pss_cons (ps_setLc (i := 9) (own := [("k", 8)]) (g := (gName 8)) (tt := tYes) (by rfl) sc_law_words.nd rfl rfl (sw_true rfl rfl rfl (by decide +kernel)) (pi_range1 (by rfl) T.z_range (pa_cons (pv 5) pa_nil)) (blkOk_by (N := ["pool", "many", "letters", "others", "barred", "size", "at", "alike", "k", "base", "words", "row", "word", "more", "j"]) (sc := defScope s_law_words) (by decide +kernel)) (fun _ _ _ _ _ => (pg_name (i := 8) sc_law_words.nd rfl (Or.inl rfl))) (fun _ _ _ _ _ => pts_nil) (fun _ _ _ _ _ => (pe_ix ix_str (pv 3) (C8.pe_c C_law_take hr (by decide) rfl (pa_cons (pv 0) (pa_cons pe_int pa_nil))) (fun _ _ => rfl))))
    (pss_cons (ps_set (i := 10) sc_law_words.nd rfl (Or.inl rfl) (pe_lst pa_nil))
    (pss_cons (ps_for PassesOwn.never rfl (pi_range1 (by rfl) T.z_range (pa_cons (pv 1) pa_nil)) (pg_name (i := 8) sc_law_words.nd rfl (Or.inl rfl)) (pss_cons (ps_set (i := 11) sc_law_words.nd rfl (Or.inl rfl) (pe_op op_cat (pe_lst (pa_cons (pe_ix ix_str (pv 2) (C8.pe_c C_law_take hr (by decide) rfl (pa_cons (pv 0) (pa_cons pe_int pa_nil))) (fun _ _ => rfl)) pa_nil)) (pv 9)))
    (C8.pss_cut (ps_if (pt_cmpR op_eq (pv 7) pe_int (nomark _)) (pss_one (ps_set (i := 11) sc_law_words.nd rfl (Or.inl rfl) (pe_op op_cat (pe_lst (pa_cons (pe_ix ix_str (pv 2) (C8.pe_c C_law_take hr (by decide) rfl (pa_cons (pv 0) (pa_cons pe_int pa_nil))) (fun _ _ => rfl)) pa_nil)) (pe_lc (own := [("j", 14)]) (g := (gName 14)) (tt := tYes) (by rfl) sc_law_words.nd (pi_range1 (by rfl) T.z_range (pa_cons (C8.pe_c C_law_take hr (by decide) rfl (pa_cons (pv 0) (pa_cons pe_int pa_nil))) pa_nil)) (blkOk_by (N := ["pool", "many", "letters", "others", "barred", "size", "at", "alike", "k", "base", "words", "row", "word", "more", "j"]) (sc := defScope s_law_words) (by decide +kernel)) (fun _ _ _ _ _ => (pg_name (i := 14) sc_law_words.nd rfl (Or.inl rfl))) (fun _ _ _ _ _ => pts_nil) (fun _ _ _ _ _ => (pe_ix ix_str (pv 3) (C8.pe_c C_law_take hr (by decide) rfl (pa_cons (pv 0) (pa_cons pe_int pa_nil))) (fun _ _ => rfl))))))) pss_nil)
    (pss_cons (ps_asg (pe_ix ix_str (pv 2) (C8.pe_c C_law_take hr (by decide) rfl (pa_cons (pv 0) (pa_cons pe_int pa_nil))) (fun _ _ => rfl)) (pg_sub (pv 11) (pe_callB (call_min2 (by rfl)) (by rfl) T.z_min (by decide +kernel) (pa_cons (pv 6) (pa_cons (pe_op op_sub (pe_callB call_len_seq (by rfl) T.z_len (by decide +kernel) (pa_cons (pv 11) pa_nil)) pe_int) pa_nil))) set_list))
    (pss_cons (ps_set (i := 12) sc_law_words.nd rfl (Or.inl rfl) (pe_join pe_str (pv 11)))
    (C8.pss_cut (ps_for PassesOwn.never rfl (pi_range1 (by rfl) T.z_range (pa_cons (pe_op op_add (pv 1) pe_int) pa_nil)) (pg_name (i := 13) sc_law_words.nd rfl (Or.inl rfl)) (pss_cons (ps_if (PW.pt (pw_and (pt_cmpR op_notIn_seq (pv 12) (pv 10) rfl) (pw_and1 (pt_cmpR op_notIn_seq (pv 12) (pv 4) rfl)))) (pss_one ps_break) pss_nil)
    (pss_one (ps_set (i := 12) sc_law_words.nd rfl (Or.inl rfl) (pe_op op_add_str (pe_op op_add_str (pe_op op_add_str pe_str (pe_callTy call_str_int (by rfl) T.z_str (by decide +kernel) (pa_cons (pv 13) pa_nil))) pe_str) (pe_callTy call_str_int (by rfl) T.z_str (by decide +kernel) (pa_cons (pv 8) pa_nil)))))))
    (pss_one (ps_expr (pe_bm PySem.F.plainAttrs_list PySem.F.slot_list_append PySem.F.type_list_append mt_append (pv 10) (pa_cons (pv 12) pa_nil))))))))))
    (pss_one (ps_ret (pv 10)))))))))))), ?_⟩
  -- letters, others, barred
  refine ⟨(by show 8 ≤ sizeLine; exact small (by decide)), fun bt hbt => ?_⟩
  have x1 : Ext l c H (upd H bt (.tup (BARRED.map V.str))) := (Ext.refl P0).new P0 hbt
  -- size, at, alike
  refine vTake rfl x1.pool (by decide) (by decide) fun size H2 hs0 hs1 x2 => ?_
  refine ⟨_, rfl, _, rfl, _, _, rfl, rfl, l, c, size + 1, False, rfl, x2.pool, by omega, by omega, .inl (Nat.le_refl 2), fun at_ H3 ha0 ha1 x3 => ?_⟩
  refine vTake rfl x3.pool (by decide) (by decide) fun al H4 hal0 hal1 x4 => ?_
  have x5 : Ext l c H H4 := ((x1.trans x2).trans x3).trans x4
  have P4 := x5.pool
  have hbt4 : H4 bt = some (.tup (BARRED.map V.str)) := (x2.trans (x3.trans x4)).keep _ _ (P0.ne hbt).1 upd_same
  -- base = [..]
  refine ⟨_, rfl, size, rfl, by omega, by omega, fun D hD => lc_range (lo := 0) (n := size.toNat) (fun i H' => ∃ row : List Nat, Ext l c H4 H' ∧ H' D = some (.lst (row.map (fun s => V.str (one s)))) ∧ row.length = i ∧ Ones row) ?_ ?_ ?_⟩
  · exact ⟨[], (Ext.refl P4).upd P4 hD, upd_same, rfl, fun _ h => nomatch h⟩
  · rintro i H' hi ⟨row, x, hd, hlen, hone⟩
    refine ⟨rfl, yes_ ⟨_, rfl, vTake rfl x.pool (by decide) (by decide) fun d H5 d0 d1 y => strAt OTH oth_len (by decide) d0 d1 fun sg hsg => ?_⟩⟩
    refine ⟨row.map (fun s => V.str (one s)), y.keep D _ (P4.ne hD).1 hd, by rw [List.length_map]; exact smallL (by omega), row ++ [sg], (x.trans y).upd P4 hD, ?_, ?_, ?_⟩
    · rw [upd_same, List.map_append]; rfl
    · rw [List.length_append, hlen]; rfl
    · intro z hz
      rcases List.mem_append.mp hz with h | h
      · exact hone z h
      · rw [List.mem_singleton.mp h]; exact hsg
  · rintro HB ⟨b0, xb, hb0, hb0l, hb0o⟩
    have PB := xb.pool
    have xB : Ext l c H HB := x5.trans xb
    have hbtB : HB bt = some (.tup (BARRED.map V.str)) := xb.keep _ _ (P0.ne hbt).1 hbt4
    -- words = []
    refine ⟨Nat.zero_le _, fun wd hwd => ?_⟩
    refine ⟨_, rfl, (m : Int), rfl, by omega, by omega, for_range (lo := 0) (n := (m : Int).toNat) (fun i σ H' => ∃ (ws : List Str) (k' r' w' m' : Option V), σ = [some (.ref l), some (.int m), some (.str LET), some (.str OTH), some (.ref bt), some (.int size), some (.int at_), some (.int al), k', some (.ref D), some (.ref wd), r', w', m', none] ∧
      Ext l c HB H' ∧ H' wd = some (.lst (ws.map V.str)) ∧ ws.length = i ∧ ws.Nodup ∧ ∀ x ∈ ws, Wd x ∧ x ∉ BARRED) ?_ ?_ ?_⟩
    · exact ⟨[], _, _, _, _, rfl, (Ext.refl PB).upd PB hwd, upd_same, rfl, List.nodup_nil, fun _ h => nomatch h⟩
    · rintro i σ H' hi ⟨ws, k', r', w', m', rfl, x, hw, hwl, hwn, hw12⟩
      have hi' : i < m := hi
      have PX := x.pool
      have neD : D ≠ l := (P4.ne hD).1
      have newd : wd ≠ l := (PB.ne hwd).1
      have hDX : H' D = some (.lst (b0.map (fun s => V.str (one s)))) := x.keep _ _ neD hb0
      have hbtX : H' bt = some (.tup (BARRED.map V.str)) := x.keep _ _ (P0.ne hbt).1 hbtB
      -- row = [..] + base
      refine ⟨_, rfl, vTake rfl PX (by decide) (by decide) fun d H1 d0 d1 y => strAt LET let_len (by decide) d0 d1 fun sg hsg => ?_⟩
      have hD1 := y.keep _ _ neD hDX
      refine ⟨(by show 1 ≤ sizeLine; exact small (by decide)), fun p1 hp1 => ⟨_, rfl, p1, D, _, _, rfl, rfl, upd_same, (by rw [upd_ne (ne_of_none hD1 hp1)]; exact hD1), (by rw [List.length_map]; show 1 + b0.length ≤ _; exact small (by omega)), fun p2 hp2 => ?_⟩⟩
      have z2 : Ext l c H' (upd (upd H1 p1 _) p2 (.lst ([V.str ⟨#[sg]⟩] ++ b0.map (fun s => V.str (one s))))) := (y.new PX hp1).new PX hp2
      have hp2' : H' p2 = none := (y.new PX hp1).free PX hp2
      refine ⟨fun σ' H'' => ∃ (rw_ : Addr) (s0 : Nat) (row : List Nat), σ' = [some (.ref l), some (.int m), some (.str LET), some (.str OTH), some (.ref bt), some (.int size), some (.int at_), some (.int al), some (.int (0 + (i : Int))), some (.ref D), some (.ref wd), some (.ref rw_), w', m', none] ∧
        Ext l c H' H'' ∧ H' rw_ = none ∧ H'' rw_ = some (.lst ((s0 :: row).map (fun s => V.str (one s)))) ∧ s0 ∈ LET.cps.toList ∧ Ones row ∧ row.length ≤ 11, ?_, ?_⟩
      · -- if alike == 0
        refine ⟨_, rfl, rfl, _, rfl, ite2 (fun _ => ?_) (fun _ => ⟨p2, sg, b0, rfl, z2, hp2', upd_same, hsg, hb0o, by omega⟩)⟩
        refine ⟨_, rfl, vTake rfl z2.pool (by decide) (by decide) fun d H6 d0 d1 y6 => strAt LET let_len (by decide) d0 d1 fun sg2 hsg2 => ?_⟩
        refine ⟨(by show 1 ≤ sizeLine; exact small (by decide)), fun p3 hp3 => ?_⟩
        have z3 := (z2.trans y6).new (o := .lst [.str ⟨#[sg2]⟩]) PX hp3
        have P3 := z3.pool
        have hp3' : H' p3 = none := (z2.trans y6).free PX hp3
        refine vTake rfl z3.pool (by decide) (by decide) fun n2 H7 n0 n1 y7 => ⟨n2, rfl, by omega, by omega, fun D2 hD2 => lc_range (lo := 0) (n := n2.toNat) (fun i H'' => ∃ row : List Nat, Ext l c H7 H'' ∧ H'' D2 = some (.lst (row.map (fun s => V.str (one s)))) ∧ row.length = i ∧ Ones row) ?_ ?_ ?_⟩
        · exact ⟨[], (Ext.refl y7.pool).upd y7.pool hD2, upd_same, rfl, fun _ h => nomatch h⟩
        · rintro i H'' hi ⟨row, x, hd, hlen, hone⟩
          refine ⟨rfl, yes_ ⟨_, rfl, vTake rfl x.pool (by decide) (by decide) fun d H5 d0 d1 y => strAt OTH oth_len (by decide) d0 d1 fun sg hsg => ?_⟩⟩
          refine ⟨row.map (fun s => V.str (one s)), y.keep D2 _ (y7.pool.ne hD2).1 hd, by rw [List.length_map]; exact smallL (by omega), row ++ [sg], (x.trans y).upd y7.pool hD2, ?_, ?_, ?_⟩
          · rw [upd_same, List.map_append]; rfl
          · rw [List.length_append, hlen]; rfl
          · intro z hz
            rcases List.mem_append.mp hz with h | h
            · exact hone z h
            · rw [List.mem_singleton.mp h]; exact hsg
        · rintro H8 ⟨row, x8, hd8, hlen8, hone8⟩
          have h38 : H8 p3 = some (.lst [.str ⟨#[sg2]⟩]) := (y7.trans x8).keep _ _ (PX.ne hp3').1 upd_same
          refine ⟨p3, D2, _, _, rfl, rfl, h38, hd8, (by rw [List.length_map]; show 1 + row.length ≤ _; exact small (by omega)), fun p4 hp4 => ?_⟩
          have z8 : Ext l c H' H8 := z3.trans (y7.trans x8)
          exact ⟨p4, sg2, row, rfl, z8.new PX hp4, z8.free PX hp4, upd_same, hsg2, hone8, by omega⟩
      · rintro σ' H9 ⟨rw_, s0, row, rfl, x9, hrn, hr9, hs0L, hone, hl12⟩
        have nrl : rw_ ≠ l := (PX.ne hrn).1
        -- row[min(at, len(row) - 1)] = ..
        refine ⟨_, rfl, vTake rfl x9.pool (by decide) (by decide) fun d3 H10 d30 d31 y10 => strAt LET let_len (by decide) d30 d31 fun sg3 hsg3 => ?_⟩
        have hr10 : H10 rw_ = some (.lst ((s0 :: row).map (fun s => V.str (one s)))) := y10.keep _ _ nrl hr9
        refine ⟨_, rfl, _, rfl, _, rfl, rw_, _, rfl, .inl (SqL.of hr10), _, _, rfl, rfl, _, _, rfl, ?_⟩
        have hrl : (((s0 :: row).map (fun s => V.str (one s))).length : Int) = row.length + 1 := by rw [List.length_map, List.length_cons]; rfl
        refine ⟨rw_, _, _, _, rfl, rfl, hr10, ixN_of (by split <;> omega) (by split <;> omega), ?_⟩
        generalize (if ((((s0 :: row).map (fun s => V.str (one s))).length : Nat) : Int) - 1 < at_ then ((((s0 :: row).map (fun s => V.str (one s))).length : Nat) : Int) - 1 else at_).toNat = jz
        obtain ⟨s1, r1, e1, hs1L, ho1, hl1⟩ := set_hd hs0L hone hsg3 jz
        have es : ((s0 :: row).map (fun s => V.str (one s))).set jz (V.str ⟨#[sg3]⟩) = ((s1 :: r1).map one).map V.str := by
          rw [← e1, List.map_map]
          exact (List.map_set ..).symm
        rw [es]
        have zX : Ext l c H' (upd H10 rw_ (.lst (((s1 :: r1).map one).map V.str))) := (x9.trans y10).upd PX hrn
        generalize hHX : upd H10 rw_ (.lst (((s1 :: r1).map one).map V.str)) = HX at zX
        have hrX : HX rw_ = some (.lst (((s1 :: r1).map one).map V.str)) := by rw [← hHX]; exact upd_same
        -- word = ''.join(row)
        refine ⟨⟨_, rfl⟩, _, rfl, "", rw_, (s1 :: r1).map one, rfl, rfl, .inl (SqL.of hrX), by rw [one_sum, List.length_cons]; show _ + _ * 0 ≤ _; omega, ?_⟩
        have ul : Wd (Txt.join "" ((s1 :: r1).map one)) := Wd.of (txt_join _) hs1L ho1 (by omega)
        have hwX : HX wd = some (.lst (ws.map V.str)) := zX.keep _ _ newd hw
        have hbX : HX bt = some (.tup (BARRED.map V.str)) := zX.keep _ _ (P0.ne hbt).1 hbtX
        generalize Txt.join "" ((s1 :: r1).map one) = u0 at ul ⊢
        -- the loop that seeks a new word
        refine ⟨fun σ' H'' => ∃ (u : Str) (mo : Option V), σ' = [some (.ref l), some (.int m), some (.str LET), some (.str OTH), some (.ref bt), some (.int size), some (.int at_), some (.int al), some (.int (0 + (i : Int))), some (.ref D), some (.ref wd), some (.ref rw_), some (.str u), mo, none] ∧
          H'' = HX ∧ u ∉ ws ∧ Wd u ∧ u ∉ BARRED, ?_, ?_⟩
        · refine ⟨_, rfl, _, _, rfl, rfl, _, rfl, by omega, by omega, for_range (lo := 0) (n := ((m : Int) + 1).toNat) (fun j σ H'' => ∃ (u : Str) (mo : Option V), σ = [some (.ref l), some (.int m), some (.str LET), some (.str OTH), some (.ref bt), some (.int size), some (.int at_), some (.int al), some (.int (0 + (i : Int))), some (.ref D), some (.ref wd), some (.ref rw_), some (.str u), mo, none] ∧
            H'' = HX ∧ Wd u ∧ (1 ≤ j → u = cand (j - 1) i) ∧ ∀ t, t + 1 < j → cand t i ∈ ws) ?_ ?_ ?_⟩
          · exact ⟨u0, _, rfl, rfl, ul, by omega, by omega⟩
          · rintro j σ H'' hj ⟨u, mo, rfl, rfl, hu, hc, ht⟩
            have hj' : j < m + 1 := by omega
            have nxt : (u ∈ ws ∨ u ∈ BARRED) → ∀ t, t + 1 < j + 1 → cand t i ∈ ws := fun h t h1 => by
              by_cases e : t + 1 < j
              · exact ht t e
              · have e2 : j - 1 = t := by omega
                have e3 := hc (by omega)
                rw [e2] at e3
                rcases h with h | h
                · rw [← e3]; exact h
                · rw [e3] at h; exact absurd h (cand_bar t i)
            -- the next word that is tried
            have go : (u ∈ ws ∨ u ∈ BARRED) → ∃ (u' : Str) (mo' : Option V), [some (V.ref l), some (V.int m), some (V.str LET), some (V.str OTH), some (V.ref bt), some (V.int size), some (V.int at_), some (V.int al), some (V.int (0 + (i : Int))), some (V.ref D), some (V.ref wd), some (V.ref rw_), some (V.str (("w" : Str) ++ (toString (0 + (j : Int)) : Str) ++ ("_" : Str) ++ (toString (0 + (i : Int)) : Str))), some (V.int (0 + (j : Int))), none] = [some (.ref l), some (.int m), some (.str LET), some (.str OTH), some (.ref bt), some (.int size), some (.int at_), some (.int al), some (.int (0 + (i : Int))), some (.ref D), some (.ref wd), some (.ref rw_), some (.str u'), mo', none] ∧
                H'' = H'' ∧ Wd u' ∧ (1 ≤ j + 1 → u' = cand (j + 1 - 1) i) ∧ ∀ t, t + 1 < j + 1 → cand t i ∈ ws := fun h => by
              have e : (("w" : Str) ++ (toString (0 + (j : Int)) : Str) ++ ("_" : Str) ++ (toString (0 + (i : Int)) : Str)) = cand j i := by rw [Int.zero_add, Int.zero_add]; rfl
              have hl := cand_len (j := j) (k := i) (by omega) (by omega)
              exact ⟨_, _, rfl, rfl, by rw [e]; exact cand_wd (by omega) (by omega), fun _ => e, nxt h⟩
            have lj := str_len j (by omega)
            have li := str_len i (by omega)
            have lgj : (0 + (j : Int)).natAbs.log2 < 1920 := Nat.lt_of_lt_of_le (PySem.Flt.log2_lt_of (k := 5) (by decide) (by show (0 + (j : Int)).natAbs < 32; omega)) (by decide)
            have lgi : (0 + (i : Int)).natAbs.log2 < 1920 := Nat.lt_of_lt_of_le (PySem.Flt.log2_lt_of (k := 5) (by decide) (by show (0 + (i : Int)).natAbs < 32; omega)) (by decide)
            refine ⟨_, rfl, _, rfl, wd, _, rfl, .inl (SqL.of hwX), rfl, flat_strs _, _, rfl, ?_⟩
            rw [inV_str]
            by_cases h1 : u ∈ ws
            · rw [decide_eq_true h1]
              exact iteF ⟨_, rfl, _, rfl, lgj, _, _, rfl, rfl, small (by rw [Int.zero_add]; show 1 + _ ≤ _; omega), _, _, rfl, rfl, small (by rw [Int.zero_add, Str.length_append]; show 1 + _ + 1 ≤ _; omega), _, rfl, _, rfl, lgi, _, _, rfl, rfl, small (by rw [Int.zero_add, Int.zero_add, Str.length_append, Str.length_append]; show 1 + _ + 1 + _ ≤ _; omega), go (.inl h1)⟩
            · rw [decide_eq_false h1]
              refine iteT ⟨_, rfl, _, rfl, bt, _, rfl, .inr (SqT.of hbX), rfl, flat_strs _, _, rfl, ?_⟩
              rw [inV_str]
              by_cases h2 : u ∈ BARRED
              · rw [decide_eq_true h2]
                exact iteF ⟨_, rfl, _, rfl, lgj, _, _, rfl, rfl, small (by rw [Int.zero_add]; show 1 + _ ≤ _; omega), _, _, rfl, rfl, small (by rw [Int.zero_add, Str.length_append]; show 1 + _ + 1 ≤ _; omega), _, rfl, _, rfl, lgi, _, _, rfl, rfl, small (by rw [Int.zero_add, Int.zero_add, Str.length_append, Str.length_append]; show 1 + _ + 1 + _ ≤ _; omega), go (.inr h2)⟩
              · rw [decide_eq_false h2]
                exact iteT ⟨u, _, rfl, rfl, h1, hu, h2⟩
          · rintro σ H'' ⟨u, mo, rfl, rfl, hu, hc, ht⟩
            exact (pigeon (m := m) (k := i) (by omega) (by omega) fun t h => ht t (by omega)).elim
        · rintro σ' H'' ⟨u, mo, rfl, rfl, hu, hul, hub⟩
          refine ⟨_, rfl, .inl ⟨rfl, _, SqL.of hwX⟩, _, rfl, wd, _, _, rfl, rfl, hwX, by rw [List.length_map]; exact smallL (by omega), ?_⟩
          refine ⟨ws ++ [u], _, _, _, _, rfl, (x.trans zX).upd PB hwd, ?_, by rw [List.length_append, hwl]; rfl, nd_snoc hwn hu, fun z hz => ?_⟩
          · rw [upd_same, List.map_append]; rfl
          · rcases List.mem_append.mp hz with h | h
            · exact hw12 z h
            · rw [List.mem_singleton.mp h]; exact ⟨hul, hub⟩
    · rintro σ H' ⟨ws, k', r', w', m', rfl, x, hw, hwl, hwn, hw12⟩
      refine ⟨_, rfl, q H' wd ws (xB.trans x) (xB.free P0 hwd) hw hwl hwn hw12⟩
end
end PK
namespace PK
open PySem L2
/-! ### data of tuples -/
mutual
inductive Dt (K : PySem.W.Frag) (H : Hp) : V → PyData → Prop
  | non : Dt K H .non .none
  | bl (b : Bool) : Dt K H (.bl b) (.bool b)
  | int (i : Int) : Dt K H (.int i) (.int i)
  | str (x : Str) : Dt K H (.str x) (.str x)
  | tup {a : Addr} {xs : List V} {ds : List PyData} : SqT K H a xs → DtAll K H xs ds → Dt K H (.ref a) (.tuple ds)
inductive DtAll (K : PySem.W.Frag) (H : Hp) : List V → List PyData → Prop
  | nil : DtAll K H [] []
  | cons {v : V} {vs : List V} {d : PyData} {ds : List PyData} : Dt K H v d → DtAll K H vs ds → DtAll K H (v :: vs) (d :: ds)
end
section
variable {K : PySem.W.Frag} {H H' : Hp}
mutual
theorem Dt.dp : ∀ (d : PyData) (v : V), Dt K H v d → Dp K H v d
  | .none, _, h => by cases h; exact .non
  | .bool _, _, h => by cases h; exact .bl _
  | .int _, _, h => by cases h; exact .int _
  | .str _, _, h => by cases h; exact .str _
  | .list _, _, h => by cases h
  | .dict _, _, h => by cases h
  | .tuple ds, _, h => by
    cases h with
    | tup s a => exact .tup s (DtAll.dp ds _ a)
theorem DtAll.dp : ∀ (ds : List PyData) (vs : List V), DtAll K H vs ds → DpAll K H vs ds
  | [], _, h => by cases h; exact .nil
  | d :: ds, _, h => by
    cases h with
    | cons h1 h2 => exact .cons (Dt.dp d _ h1) (DtAll.dp ds _ h2)
end
mutual
theorem Dt.mono (hT : ∀ a xs, SqT K H a xs → SqT K H' a xs) : ∀ (d : PyData) (v : V), Dt K H v d → Dt K H' v d
  | .none, _, h => by cases h; exact .non
  | .bool _, _, h => by cases h; exact .bl _
  | .int _, _, h => by cases h; exact .int _
  | .str _, _, h => by cases h; exact .str _
  | .list _, _, h => by cases h
  | .dict _, _, h => by cases h
  | .tuple ds, _, h => by
    cases h with
    | tup s a => exact .tup (hT _ _ s) (DtAll.mono hT ds _ a)
theorem DtAll.mono (hT : ∀ a xs, SqT K H a xs → SqT K H' a xs) : ∀ (ds : List PyData) (vs : List V), DtAll K H vs ds → DtAll K H' vs ds
  | [], _, h => by cases h; exact .nil
  | d :: ds, _, h => by
    cases h with
    | cons h1 h2 => exact .cons (Dt.mono hT d _ h1) (DtAll.mono hT ds _ h2)
end
theorem Same.seqT {a : Addr} {xs : List V} (e : Same H H') (h : SqT K H a xs) : SqT K H' a xs := by
  rcases h with (h | ⟨o, h⟩) | h
  · exact .inl (.inl (e _ _ h))
  · exact .inl (.inr ⟨o, e _ _ h⟩)
  · exact .inr h
theorem Dt.same {d : PyData} {v : V} (h : Dt K H v d) (e : Same H H') : Dt K H' v d := Dt.mono (fun _ _ q => Same.seqT e q) d v h
theorem Dt.ext {l c : Addr} {d : PyData} {v : V} (h : Dt K H v d) (P : Pool H l c) (x : Ext l c H H') : Dt K H' v d := Dt.mono (fun _ _ q => x.seqT P q) d v h
theorem same_new {p : Addr} {o : HO} (h : H p = none) : Same H (upd H p o) := fun b u e => by
  rw [upd_ne (ne_of_none e h)]
  exact e
theorem Dt.new {d : PyData} {v : V} {p : Addr} {o : HO} (h : Dt K H v d) (hp : H p = none) : Dt K (upd H p o) v d := h.same (same_new hp)
theorem Dt.s {v : V} {x : Str} (h : Dt K H v (.str x)) : v = .str x := by cases h; rfl
theorem Dt.i {v : V} {x : Int} (h : Dt K H v (.int x)) : v = .int x := by cases h; rfl
theorem Dt.t1 {v : V} {d : PyData} (h : Dt K H v (.tuple [d])) : ∃ a x, v = .ref a ∧ SqT K H a [x] ∧ Dt K H x d := by
  cases h with
  | tup s a => cases a with
    | cons h1 r => cases r; exact ⟨_, _, rfl, s, h1⟩
theorem Dt.t2 {v : V} {d e : PyData} (h : Dt K H v (.tuple [d, e])) : ∃ a x y, v = .ref a ∧ SqT K H a [x, y] ∧ Dt K H x d ∧ Dt K H y e := by
  cases h with
  | tup s a => cases a with
    | cons h1 r => cases r with
      | cons h2 r => cases r; exact ⟨_, _, _, rfl, s, h1, h2⟩
theorem Dt.t3 {v : V} {d e f : PyData} (h : Dt K H v (.tuple [d, e, f])) : ∃ a x y z, v = .ref a ∧ SqT K H a [x, y, z] ∧ Dt K H x d ∧ Dt K H y e ∧ Dt K H z f := by
  cases h with
  | tup s a => cases a with
    | cons h1 r => cases r with
      | cons h2 r => cases r with
        | cons h3 r => cases r; exact ⟨_, _, _, _, rfl, s, h1, h2, h3⟩
theorem Dt.tn {v : V} {ds : List PyData} (h : Dt K H v (.tuple ds)) : ∃ a xs, v = .ref a ∧ SqT K H a xs ∧ DtAll K H xs ds := by
  cases h with
  | tup s a => exact ⟨_, _, rfl, s, a⟩
theorem Dt.mk2 {p : Addr} {x y : V} {d e : PyData} (hp : H p = none) (h1 : Dt K H x d) (h2 : Dt K H y e) : Dt K (upd H p (.tup [x, y])) (.ref p) (.tuple [d, e]) :=
  .tup (SqT.of upd_same) (.cons (h1.new hp) (.cons (h2.new hp) .nil))
theorem Dt.mk3 {p : Addr} {x y z : V} {d e f : PyData} (hp : H p = none) (h1 : Dt K H x d) (h2 : Dt K H y e) (h3 : Dt K H z f) : Dt K (upd H p (.tup [x, y, z])) (.ref p) (.tuple [d, e, f]) :=
  .tup (SqT.of upd_same) (.cons (h1.new hp) (.cons (h2.new hp) (.cons (h3.new hp) .nil)))
theorem Dt.mk1 {p : Addr} {x : V} {d : PyData} (hp : H p = none) (h1 : Dt K H x d) : Dt K (upd H p (.tup [x])) (.ref p) (.tuple [d]) :=
  .tup (SqT.of upd_same) (.cons (h1.new hp) .nil)
end
/-! ### what the law speaks of -/
inductive At where
  | int (n : Int) | name (s : Str) | addr (n : Int)
  deriving DecidableEq
inductive Tm where
  | atm (a : At) | map (es : List (Str × At)) | node (a : At)
inductive Op where
  | atm (a : At) | sum (w : Str) (n : Int) | mv (w : Str)
inductive Kd where
  | i | n | a | m
inductive Cd where
  | kind (k : Kd) (w : Str) | eq (a b : Op) | less (a b : Op) | has (w : Str) (k : Op)
inductive Cn where
  | pl (c : Cd) | no (c : Cd)
def At.hd : At → Str
  | .int _ => "int" | .name _ => "name" | .addr _ => "addr"
def At.ld : At → PyData
  | .int n => .int n | .name s => .str s | .addr n => .int n
def At.d (a : At) : PyData := .tuple [.str a.hd, a.ld]
def Tm.hd : Tm → Str
  | .atm a => a.hd | .map _ => "map" | .node _ => "node"
def ent (e : Str × At) : PyData := .tuple [.str e.1, e.2.d]
def Tm.d : Tm → PyData
  | .atm a => a.d
  | .map es => .tuple [.str "map", .tuple (es.map ent)]
  | .node a => .tuple [.str "node", .str "node", .tuple [a.d]]
def Op.d : Op → PyData
  | .atm a => a.d
  | .sum w n => .tuple [.str "sum", .str w, .int n]
  | .mv w => .tuple [.str "meta", .str w]
def Kd.s : Kd → Str
  | .i => "integer" | .n => "name" | .a => "address" | .m => "map"
def Kd.h : Kd → Str
  | .i => "int" | .n => "name" | .a => "addr" | .m => "map"
def Cd.d : Cd → PyData
  | .kind k w => .tuple [.str k.s, .str w]
  | .eq a b => .tuple [.str "equal", a.d, b.d]
  | .less a b => .tuple [.str "less", a.d, b.d]
  | .has w k => .tuple [.str "has", .str w, k.d]
def Cn.d : Cn → PyData
  | .pl c => c.d
  | .no c => .tuple [.str "not", c.d]
def Op.val (tm : Str → Tm) : Op → Option Tm
  | .atm a => some (.atm a)
  | .mv w => some (tm w)
  | .sum w n => match tm w with
    | .atm (.int i) => some (.atm (.int (i + n)))
    | _ => none
def hasB : Tm → Tm → Bool
  | .map es, .atm (.name s) => es.any fun e => decide (e.1 = s)
  | _, _ => false
def eqB : Option Tm → Option Tm → Bool
  | some (.atm x), some (.atm y) => decide (x = y)
  | _, _ => false
def lessB : Option Tm → Option Tm → Bool
  | some (.atm (.int x)), some (.atm (.int y)) => decide (x < y)
  | _, _ => false
def Cd.holds (tm : Str → Tm) : Cd → Bool
  | .kind k w => decide ((tm w).hd = k.h)
  | .eq a b => eqB (a.val tm) (b.val tm)
  | .less a b => lessB (a.val tm) (b.val tm)
  | .has w k => match k.val tm with
    | some t => hasB (tm w) t
    | none => false
def Cn.holds (tm : Str → Tm) : Cn → Bool
  | .pl c => c.holds tm
  | .no c => !c.holds tm
def Op.words : Op → List Str
  | .atm _ => [] | .sum w _ => [w] | .mv w => [w]
def Cd.words : Cd → List Str
  | .kind _ w => [w]
  | .eq a b => a.words ++ b.words
  | .less a b => a.words ++ b.words
  | .has w k => w :: k.words
def Cn.words : Cn → List Str
  | .pl c => c.words
  | .no c => c.words
/-- the key of a has: never a sum -/
def Cd.Ok (sure : List Str) : Cd → Prop
  | .has w k => w ∈ sure ∧ (∀ x ∈ k.words, x ∈ sure) ∧ ∀ w n, k ≠ .sum w n
  | c => ∀ x ∈ c.words, x ∈ sure
def Cn.Ok (sure : List Str) : Cn → Prop
  | .pl c => c.Ok sure
  | .no c => c.Ok sure
/-- the names in it are words -/
def At.W : At → Prop
  | .name s => Wd s
  | _ => True
def Tm.W : Tm → Prop
  | .atm a => a.W
  | .map es => es.length ≤ 25 ∧ ∀ e ∈ es, Wd e.1 ∧ e.2.W
  | .node a => a.W
def Op.W : Op → Prop
  | .atm a => a.W
  | _ => True
def Cd.W : Cd → Prop
  | .eq a b => a.W ∧ b.W
  | .less a b => a.W ∧ b.W
  | _ => True
/-- the dict at fd: each sure word with its term -/
def Fnd (K : PySem.W.Frag) (H : Hp) (fd : Addr) (sure : List Str) (tm : Str → Tm) : Prop := ∃ kvs : List (Key × V), H fd = some (.dK kvs) ∧ kvs.map (·.1) = sure.map Sum.inr ∧ ∀ w ∈ sure, ∃ v, valV kvs (Sum.inr w) = some v ∧ Dt K H v (tm w).d ∧ (tm w).W
theorem Fnd.mono {K : PySem.W.Frag} {H H' : Hp} {fd : Addr} {sure : List Str} {tm : Str → Tm} (F : Fnd K H fd sure tm) (h : H' fd = H fd) (hT : ∀ a xs, SqT K H a xs → SqT K H' a xs) : Fnd K H' fd sure tm := by
  obtain ⟨kvs, h1, h2, h3⟩ := F
  refine ⟨kvs, h.trans h1, h2, fun w hw => ?_⟩
  obtain ⟨v, a, b, c⟩ := h3 w hw
  exact ⟨v, a, Dt.mono hT _ _ b, c⟩
theorem Fnd.same {K : PySem.W.Frag} {H H' : Hp} {fd : Addr} {sure : List Str} {tm : Str → Tm} (F : Fnd K H fd sure tm) (e : Same H H') : Fnd K H' fd sure tm := by
  obtain ⟨kvs, h1, _⟩ := id F
  exact F.mono (by rw [h1]; exact e _ _ h1) fun _ _ q => Same.seqT e q
theorem Fnd.ext {K : PySem.W.Frag} {H H' : Hp} {fd l c : Addr} {sure : List Str} {tm : Str → Tm} (F : Fnd K H fd sure tm) (P : Pool H l c) (x : Ext l c H H') : Fnd K H' fd sure tm := by
  obtain ⟨kvs, h1, _⟩ := id F
  have ne : fd ≠ l := fun e => by
    subst e
    obtain ⟨_, _, _, _, hl, _⟩ := P
    rw [hl] at h1; cases h1
  exact F.mono (by rw [h1]; exact x.keep _ _ ne h1) fun _ _ q => x.seqT P q
end PK
namespace PK
open PySem L2
/-! ### the program: conditions -/
structure TxtP (K : PySem.W.Frag) (w : World) (mg : Str → Option Value) (aC dH : Addr) : Prop where
  g_HEADS : mg "_HEADS" = some (.ref dH)
  g_COMPARED : mg "_COMPARED" = some (.ref aC)
  cmp : ∀ H, SqT K H aC [.str "int", .str "name", .str "addr"]
  kd : ∃ es n, KDict K w dH es n
  hi : ∃ t, PySem.W.nsIn K dH "integer" = some (some (.str "int" t))
  hn : ∃ t, PySem.W.nsIn K dH "name" = some (some (.str "name" t))
  ha : ∃ t, PySem.W.nsIn K dH "address" = some (some (.str "addr" t))
  hm : ∃ t, PySem.W.nsIn K dH "map" = some (some (.str "map" t))
  no1 : PySem.W.nsIn K dH "equal" = some none
  no2 : PySem.W.nsIn K dH "less" = some none
  no3 : PySem.W.nsIn K dH "has" = some none
/-- xs[j] of a name, a tuple -/
theorem vTx {K : PySem.W.Frag} {σ : L2.St} {H : Hp} {Q : VK} {i : Nat} {p : Addr} {xs : List V} {j : Int} {v : V} (h : σ[i]? = some (some (.ref p))) (hl : SqT K H p xs) (ha : atI xs j = some v) (q : Q v H) :
    tOp (rIxT K) (tVar i) (tC (.int j)) σ H Q := ⟨_, h, p, xs, j, v, rfl, rfl, hl, ha, q⟩
section
variable {s t : Str} {A B : Prop}
theorem sT (e : s = t) (h : A) : if decide (V.str s = V.str t) = true then A else B := by rw [decide_eq_true (by rw [e])]; exact iteT h
theorem sF (e : s ≠ t) (h : B) : if decide (V.str s = V.str t) = true then A else B := by rw [decide_eq_false (fun z => e (V.str.inj z))]; exact iteF h
theorem nT (e : s ≠ t) (h : A) : if (!decide (V.str s = V.str t)) = true then A else B := by rw [decide_eq_false (fun z => e (V.str.inj z))]; exact iteT h
theorem nF (e : s = t) (h : B) : if (!decide (V.str s = V.str t)) = true then A else B := by rw [decide_eq_true (by rw [e])]; exact iteF h
end
theorem At.hd_meta (a : At) : a.hd ≠ "meta" := by
  cases a
  · show ("int" : Str) ≠ "meta"; decide +kernel
  · show ("name" : Str) ≠ "meta"; decide +kernel
  · show ("addr" : Str) ≠ "meta"; decide +kernel
theorem At.hd_sum (a : At) : a.hd ≠ "sum" := by
  cases a
  · show ("int" : Str) ≠ "sum"; decide +kernel
  · show ("name" : Str) ≠ "sum"; decide +kernel
  · show ("addr" : Str) ≠ "sum"; decide +kernel
theorem Fnd.get {K : PySem.W.Frag} {H : Hp} {fd : Addr} {sure : List Str} {tm : Str → Tm} (F : Fnd K H fd sure tm) {x : Str} (hx : x ∈ sure) : ∃ v, DGet H fd (.str x) (some v) ∧ Dt K H v (tm x).d ∧ (tm x).W := by
  obtain ⟨kvs, h1, h2, h3⟩ := F
  obtain ⟨v, a, b, c⟩ := h3 x hx
  exact ⟨v, by rw [← a]; exact DGet.k (k := Sum.inr x) h1, b, c⟩
/-- a term's tuple, by its first place -/
theorem Tm.tup {K : PySem.W.Frag} {H : Hp} {v : V} : ∀ {t : Tm}, Dt K H v t.d → ∃ a xs, v = .ref a ∧ SqT K H a xs ∧ atI xs 0 = some (.str t.hd)
  | .atm a, h => by
    obtain ⟨p, x, y, e, s, h1, h2⟩ := Dt.t2 h
    exact ⟨p, _, e, s, by rw [h1.s]; rfl⟩
  | .map es, h => by
    obtain ⟨p, x, y, e, s, h1, h2⟩ := Dt.t2 h
    exact ⟨p, _, e, s, by rw [h1.s]; rfl⟩
  | .node a, h => by
    obtain ⟨p, x, y, z, e, s, h1, h2, h3⟩ := Dt.t3 h
    exact ⟨p, _, e, s, by rw [h1.s]; rfl⟩
theorem sum_int {tm : Str → Tm} {x : Str} {n i : Int} (h : tm x = .atm (.int i)) : Op.val tm (.sum x n) = some (.atm (.int (i + n))) := by
  show (match tm x with | .atm (.int i) => some (Tm.atm (.int (i + n))) | _ => none) = _
  rw [h]
theorem sum_none {tm : Str → Tm} {x : Str} {n : Int} (h : ¬ ∃ i, tm x = .atm (.int i)) : Op.val tm (.sum x n) = none := by
  show (match tm x with | .atm (.int i) => some (Tm.atm (.int (i + n))) | _ => none) = _
  cases e : tm x with
  | atm a => cases a with
    | int i => exact absurd ⟨i, e⟩ h
    | name s => rfl
    | addr i => rfl
  | map es => rfl
  | node a => rfl
def spOpv (K : PySem.W.Frag) : Sp := fun vs H Q _ => ∃ (o : V) (fd : Addr) (op : Op) (sure : List Str) (tm : Str → Tm), vs = [o, .ref fd] ∧ Dt K H o op.d ∧ Fnd K H fd sure tm ∧ (∀ x ∈ op.words, x ∈ sure) ∧
  ∀ (v : V) (H' : Hp), Same H H' → (∀ t, op.val tm = some t → Dt K H' v t.d) → (op.val tm = none → v = .non) → Q v H'
section
variable {P : Program} {w : World} {K : PySem.W.Frag} {mg : Str → Option Value} {base : Heap}
abbrev s_operand_value : Stmt := topS 3
theorem sc_operand_value : FnScope ["operand", "bindings", "_", "word", "number", "term"] ["operand", "bindings"] (defScope s_operand_value) := ⟨rfl, rfl, rfl, by decide +kernel, rfl, by decide +kernel, by decide +kernel⟩
-- slots: 0:operand 1:bindings 2:_ 3:word 4:number 5:term
theorem ok_opv {f : Addr} {fd : FuncData} (F : Fun K "operand_value" "operand_value" s_operand_value f fd) :
    FnOk P w K mg base CX0 1 f fd ["operand", "bindings"] (spOpv K) := by
  refine F.ok sc_operand_value (fun vs H Q E h => ?_) (fun cdv A outer s H vs Q E hr h => ?_)
  · obtain ⟨o, b, op, su, tm, rfl, _⟩ := h
    rfl
  obtain ⟨o, b, op, su, tm, rfl, ho, hf, hw, q⟩ := h
  refine ⟨_, (pss_cons (ps_if (pt_cmpR op_eq (pe_ix ix_tup (pv 0) pe_int (fun _ _ => rfl)) pe_str (nomark _)) (pss_one (ps_ret (pe_dget (hu_of hr) (pv 1) (pe_ix ix_tup (pv 0) pe_int (fun _ _ => rfl)) (fun _ _ => rfl)))) pss_nil)
    (pss_cons (ps_if (pt_cmpR op_ne (pe_ix ix_tup (pv 0) pe_int (fun _ _ => rfl)) pe_str (nomark _)) (pss_one (ps_ret (pv 0))) pss_nil)
    (pss_cons (ps_asg (pv 0) (pg_tup (by rfl) (pgs_cons (pg_name (i := 2) sc_operand_value.nd rfl (Or.inl rfl)) (pgs_cons (pg_name (i := 3) sc_operand_value.nd rfl (Or.inl rfl)) (pgs_cons (pg_name (i := 4) sc_operand_value.nd rfl (Or.inl rfl)) pgs_nil)))))
    (pss_cons (ps_set (i := 5) sc_operand_value.nd rfl (Or.inl rfl) (pe_dget (hu_of hr) (pv 1) (pv 3) (fun _ _ => rfl)))
    (pss_cons (ps_if (pt_cmpR op_ne (pe_ix ix_tup (pv 5) pe_int (fun _ _ => rfl)) pe_str (nomark _)) (pss_one (ps_ret pe_non)) pss_nil)
    (pss_one (ps_ret (pe_tup (pa_cons pe_str (pa_cons (pe_op op_add (pe_ix ix_tup (pv 5) pe_int (fun _ _ => rfl)) (pv 4)) pa_nil)))))))))), ?_⟩
  cases op with
  | atm a =>
    obtain ⟨p, x, y, rfl, hs, h1, h2⟩ := Dt.t2 ho
    obtain rfl := h1.s
    refine vTx rfl hs rfl ⟨rfl, _, rfl, sF a.hd_meta (vTx rfl hs rfl ⟨rfl, _, rfl, nT a.hd_sum ⟨_, rfl, ?_⟩⟩)⟩
    exact q _ _ (Same.refl _) (fun t e => by cases e; exact ho) (fun e => nomatch e)
  | mv x =>
    obtain ⟨p, x1, y, rfl, hs, h1, h2⟩ := Dt.t2 ho
    obtain rfl := h1.s
    obtain rfl := h2.s
    obtain ⟨v, g, dv, _⟩ := hf.get (hw x (List.mem_singleton.mpr rfl))
    refine vTx rfl hs rfl ⟨rfl, _, rfl, sT rfl ⟨_, rfl, vTx rfl hs rfl ⟨b, v, rfl, g, ?_⟩⟩⟩
    exact q _ _ (Same.refl _) (fun t e => by cases e; exact dv) (fun e => nomatch e)
  | sum x n =>
    obtain ⟨p, x1, y, z, rfl, hs, h1, h2, h3⟩ := Dt.t3 ho
    obtain rfl := h1.s
    obtain rfl := h2.s
    obtain rfl := h3.i
    obtain ⟨v, g, dv, _⟩ := hf.get (hw x (List.mem_singleton.mpr rfl))
    refine vTx rfl hs rfl ⟨rfl, _, rfl, sF (by decide +kernel) (vTx rfl hs rfl ⟨rfl, _, rfl, nF rfl ?_⟩)⟩
    refine ⟨_, rfl, p, _, rfl, hs, rfl, _, _, rfl, _, _, rfl, _, _, rfl, rfl, ?_⟩
    refine ⟨_, rfl, _, rfl, b, v, rfl, g, ?_⟩
    by_cases hi : ∃ i, tm x = .atm (.int i)
    · obtain ⟨i, ei⟩ := hi
      rw [ei] at dv
      obtain ⟨p2, x2, y2, rfl, hs2, k1, k2⟩ := Dt.t2 dv
      obtain rfl := k1.s
      obtain rfl := k2.i
      refine vTx rfl hs2 rfl ⟨rfl, _, rfl, nF rfl ?_⟩
      refine vTx rfl hs2 rfl ⟨_, rfl, _, _, rfl, rfl, small (by show 2 ≤ _; decide), fun np hnp => ?_⟩
      refine q _ _ (same_new hnp) (fun t e => ?_) (fun e => ?_)
      · have e2 : Op.val tm (.sum x n) = some (.atm (.int (i + n))) := sum_int ei
        rw [e2] at e
        cases e
        exact Dt.mk2 hnp (.str _) (.int _)
      · have e2 : Op.val tm (.sum x n) = some (.atm (.int (i + n))) := sum_int ei
        rw [e2] at e; cases e
    · have en : Op.val tm (.sum x n) = none := sum_none hi
      have eh : (tm x).hd ≠ "int" := by
        cases e : tm x with
        | atm a => cases a with
          | int i => exact absurd ⟨i, e⟩ hi
          | name s => show ("name" : Str) ≠ "int"; decide +kernel
          | addr i => show ("addr" : Str) ≠ "int"; decide +kernel
        | map es => show ("map" : Str) ≠ "int"; decide +kernel
        | node a => show ("node" : Str) ≠ "int"; decide +kernel
      obtain ⟨p2, xs2, rfl, hs2, k1⟩ := Tm.tup dv
      refine vTx rfl hs2 k1 ⟨rfl, _, rfl, nT eh ?_⟩
      exact q _ _ (Same.refl _) (fun t e => by rw [en] at e; cases e) (fun _ => rfl)
theorem Same.upd {H H' : Hp} {p : Addr} {o : HO} (e : Same H H') (h : H p = none) : Same H (L2.upd H' p o) := fun b u q => by
  rw [upd_ne (ne_of_none q h)]
  exact e _ _ q
theorem hasB_l {t u : Tm} (h : t.hd ≠ "map") : hasB t u = false := by
  cases t with
  | map es => exact absurd rfl h
  | atm a => rfl
  | node a => rfl
theorem hasB_r {t u : Tm} (h : u.hd ≠ "name") : hasB t u = false := by
  cases t with
  | map es =>
    cases u with
    | atm a => cases a with
      | name s => exact absurd rfl h
      | int i => rfl
      | addr i => rfl
    | map es => rfl
    | node a => rfl
  | atm a => rfl
  | node a => rfl
theorem hd_map {t : Tm} (h : t.hd = "map") : ∃ es, t = .map es := by
  cases t with
  | map es => exact ⟨es, rfl⟩
  | atm a =>
    exfalso
    cases a
    · revert h; show ¬ (("int" : Str) = "map"); decide +kernel
    · revert h; show ¬ (("name" : Str) = "map"); decide +kernel
    · revert h; show ¬ (("addr" : Str) = "map"); decide +kernel
  | node a => exfalso; revert h; show ¬ (("node" : Str) = "map"); decide +kernel
theorem hd_name {t : Tm} (h : t.hd = "name") : ∃ s, t = .atm (.name s) := by
  cases t with
  | map es => exfalso; revert h; show ¬ (("map" : Str) = "name"); decide +kernel
  | atm a =>
    cases a with
    | name s => exact ⟨s, rfl⟩
    | int i => exfalso; revert h; show ¬ (("int" : Str) = "name"); decide +kernel
    | addr i => exfalso; revert h; show ¬ (("addr" : Str) = "name"); decide +kernel
  | node a => exfalso; revert h; show ¬ (("node" : Str) = "name"); decide +kernel
theorem hd_int {t : Tm} (h : t.hd = "int") : ∃ s, t = .atm (.int s) := by
  cases t with
  | map es => exfalso; revert h; show ¬ (("map" : Str) = "int"); decide +kernel
  | atm a =>
    cases a with
    | int s => exact ⟨s, rfl⟩
    | name i => exfalso; revert h; show ¬ (("name" : Str) = "int"); decide +kernel
    | addr i => exfalso; revert h; show ¬ (("addr" : Str) = "int"); decide +kernel
  | node a => exfalso; revert h; show ¬ (("node" : Str) = "int"); decide +kernel
def spHas (K : PySem.W.Frag) : Sp := fun vs H Q _ => ∃ (m n : V) (tm tn : Tm), vs = [m, n] ∧ Dt K H m tm.d ∧ Dt K H n tn.d ∧ tm.W ∧
  ∀ (H' : Hp), Same H H' → Q (.bl (hasB tm tn)) H'
theorem ents_any (s : Str) : ∀ es : List (Str × At), inV (.str s) (es.map fun e => V.str e.1) = es.any fun e => decide (e.1 = s)
  | [] => rfl
  | e :: r => by
    have ih := ents_any s r
    unfold inV at ih ⊢
    rw [List.map_cons, List.any_cons, List.any_cons, ih]
    show ((e.1 == s) || _) = (decide (e.1 = s) || _)
    congr 1
theorem flat_ents (es : List (Str × At)) : (es.map fun e => V.str e.1).all flatV = true := by
  rw [List.all_eq_true]
  intro x hx
  obtain ⟨s, _, rfl⟩ := List.mem_map.mp hx
  rfl
theorem DtAll.get {K : PySem.W.Frag} {H : Hp} : ∀ {xs : List V} {ds : List PyData} {i : Nat} {x : V}, DtAll K H xs ds → xs[i]? = some x → ∃ d, ds[i]? = some d ∧ Dt K H x d
  | _, _, _, _, .nil, e => by simp at e
  | _, _, 0, _, .cons h _, e => by simp at e; subst e; exact ⟨_, rfl, h⟩
  | _, _, i + 1, _, .cons _ t, e => by
    obtain ⟨d, h1, h2⟩ := DtAll.get (i := i) t (by simpa using e)
    exact ⟨d, by simpa using h1, h2⟩
theorem DtAll.length {K : PySem.W.Frag} {H : Hp} : ∀ {xs : List V} {ds : List PyData}, DtAll K H xs ds → xs.length = ds.length
  | _, _, .nil => rfl
  | _, _, .cons _ t => by rw [List.length_cons, List.length_cons, DtAll.length t]
theorem SqT.len {K : PySem.W.Frag} {H : Hp} {a : Addr} {xs : List V} : True := trivial
abbrev s_has_entry : Stmt := topS 5
theorem sc_has_entry : FnScope ["mapping", "name", "word", "_"] ["mapping", "name"] (defScope s_has_entry) := ⟨rfl, rfl, rfl, by decide +kernel, rfl, by decide +kernel, by decide +kernel⟩
-- slots: 0:mapping 1:name 2:word(comp) 3:_(comp)
theorem ok_has {f : Addr} {fd : FuncData} (F : Fun K "_has_entry" "_has_entry" s_has_entry f fd) :
    FnOk P w K mg base CX0 1 f fd ["mapping", "name"] (spHas K) := by
  refine F.ok sc_has_entry (fun vs H Q E h => ?_) (fun cdv A outer s H vs Q E hr h => ?_)
  · obtain ⟨m, n, tm, tn, rfl, _⟩ := h
    rfl
  obtain ⟨m, n, tm, tn, rfl, hm, hn, hW, q⟩ := h
  refine ⟨_, (pss_cons (ps_if (PW.pt (pw_or (pt_cmpR op_ne (pe_ix ix_tup (pv 0) pe_int (fun _ _ => rfl)) pe_str (nomark _)) (pw_or1 (pt_cmpR op_ne (pe_ix ix_tup (pv 1) pe_int (fun _ _ => rfl)) pe_str (nomark _))))) (pss_one (ps_ret pe_bl)) pss_nil)
    (pss_one (ps_ret (pe_cmpR op_in_seq (pe_ix ix_tup (pv 1) pe_int (fun _ _ => rfl)) (pe_lc (own := [("word", 2), ("_", 3)]) (g := (gTup K 2 (gCons (gName 2) (gCons (gName 3) gNil)))) (tt := tYes) (by rfl) sc_has_entry.nd (pi_tup (pe_ix ix_tup (pv 0) pe_int (fun _ _ => rfl))) (blkOk_by (N := ["mapping", "name", "word", "_"]) (sc := defScope s_has_entry) (by decide +kernel)) (fun _ _ _ _ _ => (pg_tup (by rfl) (pgs_cons (pg_name (i := 2) sc_has_entry.nd rfl (Or.inl rfl)) (pgs_cons (pg_name (i := 3) sc_has_entry.nd rfl (Or.inl rfl)) pgs_nil)))) (fun _ _ _ _ _ => pts_nil) (fun _ _ _ _ _ => (pv 2))) rfl)))), ?_⟩
  obtain ⟨pm, xm, rfl, sm, km⟩ := Tm.tup hm
  obtain ⟨pn, xn, rfl, sn, kn⟩ := Tm.tup hn
  refine vTx rfl sm km ⟨rfl, _, rfl, ?_⟩
  by_cases em : tm.hd = "map"
  · refine nF em (vTx rfl sn kn ⟨rfl, _, rfl, ?_⟩)
    by_cases en : tn.hd = "name"
    · obtain ⟨es, rfl⟩ := hd_map em
      obtain ⟨s, rfl⟩ := hd_name en
      obtain ⟨p1, x1, y1, e1, s1, k1, k2⟩ := Dt.t2 hm
      obtain ⟨p2, x2, y2, e2, s2, k3, k4⟩ := Dt.t2 hn
      cases e1; cases e2
      obtain rfl := k4.s
      obtain ⟨pe, xe, rfl, se, ke⟩ := Dt.tn k2
      have le : xe.length = es.length := by rw [DtAll.length ke, List.length_map]
      refine nF en (vTx rfl s2 rfl (vTx rfl s1 rfl ⟨pe, rfl, ⟨_, se⟩, fun D hD => lc_tup (K := K) (a := pe) (xs := xe) (fun i H' => Same H H' ∧ i ≤ es.length ∧ H' D = some (.lst ((es.take i).map fun e => V.str e.1))) ⟨same_new hD, Nat.zero_le _, upd_same⟩ (fun i H' _ h => Same.seqT h.1 se) ?_ ?_⟩))
      · rintro i x H' hi ⟨sm', hle, hd⟩
        have hi2 : i < es.length := by rw [← le]; exact (List.getElem?_eq_some_iff.mp hi).1
        obtain ⟨d, hd1, hx⟩ := ke.get hi
        rw [List.getElem?_map, List.getElem?_eq_getElem hi2] at hd1
        cases hd1
        obtain ⟨pp, xx, yy, rfl, ss, q1, q2⟩ := Dt.t2 hx
        obtain rfl := q1.s
        refine ⟨pp, _, rfl, Same.seqT sm' ss, rfl, _, _, rfl, _, _, rfl, rfl, rfl, yes_ ⟨_, rfl, _, hd, ?_, Same.upd sm' hD, hi2, ?_⟩⟩
        · rw [List.length_map, List.length_take]
          have := hW.1
          exact smallL (by omega)
        · rw [upd_same, List.take_add_one, List.getElem?_eq_getElem hi2, List.map_append]
          rfl
      · rintro H' ⟨sm', hle, hd⟩
        rw [List.take_of_length_le (by omega)] at hd
        refine ⟨D, _, rfl, .inl (SqL.of hd), rfl, flat_ents es, ?_⟩
        have z := q H' sm'
        rw [show hasB (.map es) (.atm (.name s)) = _ from (ents_any s es).symm] at z
        exact z
    · refine nT en ?_
      have z := q H (Same.refl H)
      rw [hasB_r en] at z
      exact z
  · refine nT em ?_
    have z := q H (Same.refl H)
    rw [hasB_l em] at z
    exact z
/-! holds -/
theorem eqB_none_l (x : Option Tm) : eqB none x = false := by cases x <;> rfl
theorem eqB_none_r (x : Option Tm) : eqB x none = false := by
  cases x with
  | none => rfl
  | some t => cases t <;> rfl
theorem lessB_none_l (x : Option Tm) : lessB none x = false := by cases x <;> rfl
theorem lessB_none_r (x : Option Tm) : lessB x none = false := by
  cases x with
  | none => rfl
  | some t => cases t with
    | atm a => cases a <;> rfl
    | map es => rfl
    | node a => rfl
theorem eqB_hd {t u : Tm} (h : t.hd ≠ u.hd) : eqB (some t) (some u) = false := by
  cases t with
  | atm a =>
    cases u with
    | atm b => exact decide_eq_false fun e => h (by rw [e])
    | map es => rfl
    | node b => rfl
  | map es => rfl
  | node a => rfl
theorem lessB_hd {t u : Tm} (h : t.hd ≠ u.hd) : lessB (some t) (some u) = false := by
  cases t with
  | atm a =>
    cases a with
    | int i =>
      cases u with
      | atm b => cases b with
        | int j => exact absurd rfl h
        | name s => rfl
        | addr j => rfl
      | map es => rfl
      | node b => rfl
    | name s => rfl
    | addr i => rfl
  | map es => rfl
  | node a => rfl
theorem lessB_int {t : Tm} (u : Option Tm) (h : t.hd ≠ "int") : lessB (some t) u = false := by
  cases t with
  | atm a =>
    cases a with
    | int i => exact absurd rfl h
    | name s => rfl
    | addr i => rfl
  | map es => rfl
  | node a => rfl
/-- is it one of the three that are compared -/
def isAt : Tm → Bool
  | .atm _ => true
  | _ => false
theorem cmp_in (t : Tm) : inV (.str t.hd) [.str "int", .str "name", .str "addr"] = isAt t := by
  cases t with
  | atm a =>
    cases a with
    | int i => show inV (.str "int") _ = true; decide +kernel
    | name s => show inV (.str "name") _ = true; decide +kernel
    | addr i => show inV (.str "addr") _ = true; decide +kernel
  | map es => show inV (.str "map") _ = false; decide +kernel
  | node a => show inV (.str "node") _ = false; decide +kernel
theorem eqB_at {t : Tm} (u : Option Tm) (h : isAt t = false) : eqB (some t) u = false := by
  cases t with
  | atm a => cases h
  | map es => rfl
  | node a => rfl
def At.v : At → V
  | .int n => .int n | .name s => .str s | .addr n => .int n
theorem At.ld_v {a : At} {v : V} (h : Dt K H v a.ld) : v = a.v := by
  cases a with
  | int i => exact h.i
  | name s => exact h.s
  | addr i => exact h.i
theorem at_of_hd {a : At} {u : Tm} (h : (Tm.atm a).hd = u.hd) : ∃ b, u = .atm b := by
  cases u with
  | atm b => exact ⟨b, rfl⟩
  | map es =>
    obtain ⟨es', e⟩ := hd_map (t := .atm a) h
    cases e
  | node b =>
    exfalso
    cases a
    · revert h; show ¬ (("int" : Str) = "node"); decide +kernel
    · revert h; show ¬ (("name" : Str) = "node"); decide +kernel
    · revert h; show ¬ (("addr" : Str) = "node"); decide +kernel
theorem at_eq {a b : At} (h : a.hd = b.hd) : scal a.v b.v = true ∧ decide (a.v = b.v) = decide (a = b) := by
  have z1 : ¬ (("int" : Str) = "name") := by decide +kernel
  have z2 : ¬ (("int" : Str) = "addr") := by decide +kernel
  have z3 : ¬ (("name" : Str) = "addr") := by decide +kernel
  cases a with
  | int i => cases b with
    | int j => exact ⟨rfl, by simp [At.v]⟩
    | name s => exact absurd h z1
    | addr j => exact absurd h z2
  | name i => cases b with
    | int j => exact absurd h.symm z1
    | name s => exact ⟨rfl, by simp [At.v]⟩
    | addr j => exact absurd h z3
  | addr i => cases b with
    | int j => exact absurd h.symm z2
    | name s => exact absurd h.symm z3
    | addr j => exact ⟨rfl, by simp [At.v]⟩
theorem Kd.not (k : Kd) : k.s ≠ "not" := by
  cases k
  · show ("integer" : Str) ≠ "not"; decide +kernel
  · show ("name" : Str) ≠ "not"; decide +kernel
  · show ("address" : Str) ≠ "not"; decide +kernel
  · show ("map" : Str) ≠ "not"; decide +kernel
variable {aC dH : Addr}
theorem TxtP.kind (T : TxtP K w mg aC dH) (k : Kd) : ∃ t, PySem.W.nsIn K dH k.s = some (some (.str k.h t)) := by
  cases k
  · exact T.hi
  · exact T.hn
  · exact T.ha
  · exact T.hm
theorem TxtP.dct (T : TxtP K w mg aC dH) (k : Kd) : KDct K w dH k.s (.str k.h) := by
  obtain ⟨es, n, D⟩ := T.kd
  obtain ⟨t, h⟩ := T.kind k
  exact ⟨es, n, _, D.at_, D.lit, h, t, rfl⟩
def spHolds (K : PySem.W.Frag) (n : Nat) : Sp := fun vs H Q _ => ∃ (v : V) (fd : Addr) (cn : Cn) (sure : List Str) (tm : Str → Tm), vs = [v, .ref fd] ∧ Dt K H v cn.d ∧ Fnd K H fd sure tm ∧ cn.Ok sure ∧ (3 ≤ n ∨ (2 ≤ n ∧ ∃ c, cn = .pl c)) ∧
  ∀ (H' : Hp), Same H H' → Q (.bl (cn.holds tm)) H'
abbrev s_holds : Stmt := topS 4
theorem sc_holds : FnScope ["condition", "bindings", "head", "one", "left", "right"] ["condition", "bindings"] (defScope s_holds) := ⟨rfl, rfl, rfl, by decide +kernel, rfl, by decide +kernel, by decide +kernel⟩
-- slots: 0:condition 1:bindings 2:head 3:one 4:left 5:right
theorem ok_holds {n : Nat} {f : Addr} {fd : FuncData} (hn : 1 ≤ n) (F : Fun K "holds" "holds" s_holds f fd) (T : TxtP K w mg aC dH) (C_holds : C8.Cal P w K mg base n "holds" (spHolds K n) [])
    (C_operand_value : C8.Cal P w K mg base 1 "operand_value" (spOpv K) []) (C_has_entry : C8.Cal P w K mg base 1 "_has_entry" (spHas K) []) :
    FnOk P w K mg base CX0 (n + 1) f fd ["condition", "bindings"] (spHolds K (n + 1)) := by
  refine F.ok sc_holds (fun vs H Q E h => ?_) (fun cdv A outer s H vs Q E hr h => ?_)
  · obtain ⟨v, b, cn, su, tm, rfl, _⟩ := h
    rfl
  obtain ⟨v, b, cn, su, tm, rfl, hv, hf, hok, hlev, q⟩ := h
  obtain ⟨es, nn, D⟩ := T.kd
  refine ⟨_, (pss_cons (ps_par (i := 2) (j := 3) (by rfl) sc_holds.nd rfl rfl (by decide) rfl rfl (pa_cons (pe_ix ix_tup (pv 0) pe_int (fun _ _ => rfl)) (pa_cons (pe_ix ix_tup (pv 0) pe_int (fun _ _ => rfl)) pa_nil)) (by rfl))
    (pss_cons (ps_if (pt_cmpR op_eq (pv 2) pe_str (nomark _)) (pss_one (ps_ret (pe_not (C8.pe_c C_holds hr (by omega) rfl (pa_cons (pv 3) (pa_cons (pv 1) pa_nil)))))) pss_nil)
    (pss_cons (ps_if (pt_cmpR (op_in_kd D) (pv 2) (pe_glob (v := .ref _) rfl T.g_HEADS rfl) rfl) (pss_one (ps_ret (pe_cmpR op_eq (pe_ix ix_tup (pe_dget (hu_of hr) (pv 1) (pv 3) (fun _ _ => rfl)) pe_int (fun _ _ => rfl)) (pe_ix ix_kdict (pe_glob (v := .ref _) rfl T.g_HEADS rfl) (pv 2) (fun _ _ => rfl)) (nomark _)))) pss_nil)
    (pss_cons (ps_if (pt_cmpR op_eq (pv 2) pe_str (nomark _)) (pss_one (ps_ret (C8.pe_c C_has_entry hr (by omega) rfl (pa_cons (pe_dget (hu_of hr) (pv 1) (pv 3) (fun _ _ => rfl)) (pa_cons (C8.pe_c C_operand_value hr (by omega) rfl (pa_cons (pe_ix ix_tup (pv 0) pe_int (fun _ _ => rfl)) (pa_cons (pv 1) pa_nil))) pa_nil))))) pss_nil)
    (pss_cons (ps_par (i := 4) (j := 5) (by rfl) sc_holds.nd rfl rfl (by decide) rfl rfl (pa_cons (C8.pe_c C_operand_value hr (by omega) rfl (pa_cons (pv 3) (pa_cons (pv 1) pa_nil))) (pa_cons (C8.pe_c C_operand_value hr (by omega) rfl (pa_cons (pe_ix ix_tup (pv 0) pe_int (fun _ _ => rfl)) (pa_cons (pv 1) pa_nil))) pa_nil)) (by rfl))
    (pss_cons (ps_if (PW.pt (pw_or (pt_cmpR op_isN (pv 4) pe_non (nomark _)) (pw_or (pt_cmpR op_isN (pv 5) pe_non (nomark _)) (pw_or1 (pt_cmpR op_ne (pe_ix ix_tup (pv 4) pe_int (fun _ _ => rfl)) (pe_ix ix_tup (pv 5) pe_int (fun _ _ => rfl)) (nomark _)))))) (pss_one (ps_ret pe_bl)) pss_nil)
    (pss_cons (ps_if (pt_cmpR op_eq (pv 2) pe_str (nomark _)) (pss_one (ps_ret (pe_and (pe_cmpR op_eq (pe_ix ix_tup (pv 4) pe_int (fun _ _ => rfl)) pe_str (nomark _)) (pe_one (pe_cmpR op_lt (pe_ix ix_tup (pv 4) pe_int (fun _ _ => rfl)) (pe_ix ix_tup (pv 5) pe_int (fun _ _ => rfl)) (nomark _)))))) pss_nil)
    (pss_one (ps_ret (pe_and (pe_cmpR op_in_seq (pe_ix ix_tup (pv 4) pe_int (fun _ _ => rfl)) (pe_glob (v := .ref _) rfl T.g_COMPARED rfl) rfl) (pe_one (pe_cmpR op_eq (pe_ix ix_tup (pv 4) pe_int (fun _ _ => rfl)) (pe_ix ix_tup (pv 5) pe_int (fun _ _ => rfl)) (nomark _))))))))))))), ?_⟩
  cases cn with
  | no c =>
    obtain ⟨p, x, y, rfl, hs, h1, h2⟩ := Dt.t2 hv
    obtain rfl := h1.s
    refine vTx rfl hs rfl (vTx rfl hs rfl ⟨_, _, rfl, ?_⟩)
    refine ⟨_, rfl, rfl, _, rfl, sT rfl ⟨_, rfl, _, rfl, y, b, .pl c, su, tm, rfl, h2, hf, hok, ?_, fun H' sm => ⟨_, rfl, q H' sm⟩⟩⟩
    rcases hlev with h | ⟨_, c', h⟩
    · exact .inr ⟨by omega, c, rfl⟩
    · cases h
  | pl c =>
    cases c with
    | kind k x =>
      obtain ⟨p, x1, y, rfl, hs, h1, h2⟩ := Dt.t2 hv
      obtain rfl := h1.s
      obtain rfl := h2.s
      obtain ⟨t0, hk0⟩ := T.kind k
      have hx : x ∈ su := hok x (List.mem_singleton.mpr rfl)
      obtain ⟨v, g, dv, _⟩ := hf.get hx
      obtain ⟨p2, xs2, rfl, hs2, k2⟩ := Tm.tup dv
      refine vTx rfl hs rfl (vTx rfl hs rfl ⟨_, _, rfl, ?_⟩)
      refine ⟨_, rfl, rfl, _, rfl, sF k.not ⟨_, rfl, _, _, rfl, rfl, hk0, _, rfl, iteT ?_⟩⟩
      refine ⟨_, rfl, _, rfl, b, _, rfl, g, p2, _, _, _, rfl, rfl, hs2, k2, _, rfl, dH, _, _, rfl, rfl, T.dct k, rfl, ?_⟩
      have z := q H (Same.refl H)
      have e : decide (V.str (tm x).hd = V.str k.h) = Cn.holds tm (.pl (.kind k x)) := by
        show _ = decide ((tm x).hd = k.h)
        simp
      rw [e]
      exact z
    | has x k =>
      obtain ⟨p, x1, y, z, rfl, hs, h1, h2, h3⟩ := Dt.t3 hv
      obtain rfl := h1.s
      obtain rfl := h2.s
      obtain ⟨hx, hkw, hks⟩ : x ∈ su ∧ (∀ y ∈ k.words, y ∈ su) ∧ ∀ w n, k ≠ .sum w n := hok
      obtain ⟨v, g, dv, wv⟩ := hf.get hx
      refine vTx rfl hs rfl (vTx rfl hs rfl ⟨_, _, rfl, ?_⟩)
      refine ⟨_, rfl, rfl, _, rfl, sF (by decide +kernel) ⟨_, rfl, _, _, rfl, rfl, T.no3, _, rfl, iteF ⟨_, rfl, rfl, _, rfl, sT rfl ?_⟩⟩⟩
      refine ⟨_, rfl, _, rfl, b, v, rfl, g, vTx rfl hs rfl ⟨_, rfl, z, b, k, su, tm, rfl, h3, hf, hkw, fun v2 H2 sm hv2 _ => ?_⟩⟩
      obtain ⟨t2, e2⟩ : ∃ t, k.val tm = some t := by
        cases k with
        | atm a => exact ⟨_, rfl⟩
        | mv w => exact ⟨_, rfl⟩
        | sum w n => exact absurd rfl (hks w n)
      refine ⟨v, v2, tm x, t2, rfl, dv.same sm, hv2 t2 e2, wv, fun H3 sm3 => ?_⟩
      have z := q H3 (sm.trans sm3)
      have e : Cn.holds tm (.pl (.has x k)) = hasB (tm x) t2 := by
        show (match k.val tm with | some t => hasB (tm x) t | none => false) = _
        rw [e2]
      rw [e] at z
      exact z
    | eq o1 o2 =>
      obtain ⟨p, x1, y, z, rfl, hs, h1, h2, h3⟩ := Dt.t3 hv
      obtain rfl := h1.s
      have hw1 : ∀ x ∈ o1.words, x ∈ su := fun x hx => hok x (List.mem_append_left _ hx)
      have hw2 : ∀ x ∈ o2.words, x ∈ su := fun x hx => hok x (List.mem_append_right _ hx)
      refine vTx rfl hs rfl (vTx rfl hs rfl ⟨_, _, rfl, ?_⟩)
      refine ⟨_, rfl, rfl, _, rfl, sF (by decide +kernel) ⟨_, rfl, _, _, rfl, rfl, T.no1, _, rfl, iteF ⟨_, rfl, rfl, _, rfl, sF (by decide +kernel) ?_⟩⟩⟩
      refine ⟨_, rfl, _, rfl, y, b, o1, su, tm, rfl, h2, hf, hw1, fun v1 H1 s1 e1 n1 => ?_⟩
      refine vTx rfl (Same.seqT s1 hs) rfl ⟨_, rfl, z, b, o2, su, tm, rfl, h3.same s1, hf.same s1, hw2, fun v2 H2 s2 e2 n2 => ⟨_, _, rfl, ?_⟩⟩
      have qq := q H2 (s1.trans s2)
      generalize ew : Cn.holds tm (.pl (.eq o1 o2)) = bb at qq
      have ew' : eqB (o1.val tm) (o2.val tm) = bb := ew
      cases ev1 : o1.val tm with
      | none =>
        rw [ev1, eqB_none_l] at ew'
        subst ew'
        obtain rfl := n1 ev1
        exact ⟨_, rfl, rfl, _, rfl, iteT (iteT qq)⟩
      | some t1 =>
        have d1 := (e1 t1 ev1).same s2
        obtain ⟨p1, xs1, rfl, hs1, k1⟩ := Tm.tup d1
        cases ev2 : o2.val tm with
        | none =>
          rw [ev2, eqB_none_r] at ew'
          subst ew'
          obtain rfl := n2 ev2
          exact ⟨_, rfl, rfl, _, rfl, iteF ⟨_, rfl, rfl, _, rfl, iteT (iteT qq)⟩⟩
        | some t2 =>
          have d2 := e2 t2 ev2
          obtain ⟨p2, xs2, rfl, hs2, k2⟩ := Tm.tup d2
          rw [ev1, ev2] at ew'
          refine ⟨_, rfl, rfl, _, rfl, iteF ⟨_, rfl, rfl, _, rfl, iteF (vTx rfl hs1 k1 (vTx rfl hs2 k2 ⟨rfl, _, rfl, ?_⟩))⟩⟩
          by_cases eh : t1.hd = t2.hd
          · refine nF eh ?_
            refine ⟨_, rfl, rfl, _, rfl, sF (by decide +kernel) ?_⟩
            refine vTx rfl hs1 k1 ⟨aC, _, rfl, .inr (T.cmp H2), rfl, rfl, _, rfl, ?_⟩
            rw [cmp_in]
            cases ea : isAt t1 with
            | false =>
              rw [eqB_at _ ea] at ew'
              subst ew'
              exact iteF qq
            | true =>
              cases t1 with
              | atm a =>
                obtain ⟨b2, rfl⟩ := at_of_hd eh
                obtain ⟨p3, x3, y3, e3, s3, g1, g2⟩ := Dt.t2 d1
                obtain ⟨p4, x4, y4, e4, s4, g3, g4⟩ := Dt.t2 d2
                cases e3; cases e4
                obtain rfl := At.ld_v g2
                obtain rfl := At.ld_v g4
                obtain ⟨sc, de⟩ := at_eq (a := a) (b := b2) eh
                refine iteT (vTx rfl s3 rfl (vTx rfl s4 rfl ⟨sc, ?_⟩))
                rw [de]
                have ew2 : decide (a = b2) = bb := ew'
                rw [ew2]
                exact qq
              | map es => cases ea
              | node a => cases ea
          · rw [eqB_hd eh] at ew'
            subst ew'
            exact nT eh qq
    | less o1 o2 =>
      obtain ⟨p, x1, y, z, rfl, hs, h1, h2, h3⟩ := Dt.t3 hv
      obtain rfl := h1.s
      have hw1 : ∀ x ∈ o1.words, x ∈ su := fun x hx => hok x (List.mem_append_left _ hx)
      have hw2 : ∀ x ∈ o2.words, x ∈ su := fun x hx => hok x (List.mem_append_right _ hx)
      refine vTx rfl hs rfl (vTx rfl hs rfl ⟨_, _, rfl, ?_⟩)
      refine ⟨_, rfl, rfl, _, rfl, sF (by decide +kernel) ⟨_, rfl, _, _, rfl, rfl, T.no2, _, rfl, iteF ⟨_, rfl, rfl, _, rfl, sF (by decide +kernel) ?_⟩⟩⟩
      refine ⟨_, rfl, _, rfl, y, b, o1, su, tm, rfl, h2, hf, hw1, fun v1 H1 s1 e1 n1 => ?_⟩
      refine vTx rfl (Same.seqT s1 hs) rfl ⟨_, rfl, z, b, o2, su, tm, rfl, h3.same s1, hf.same s1, hw2, fun v2 H2 s2 e2 n2 => ⟨_, _, rfl, ?_⟩⟩
      have qq := q H2 (s1.trans s2)
      generalize ew : Cn.holds tm (.pl (.less o1 o2)) = bb at qq
      have ew' : lessB (o1.val tm) (o2.val tm) = bb := ew
      cases ev1 : o1.val tm with
      | none =>
        rw [ev1, lessB_none_l] at ew'
        subst ew'
        obtain rfl := n1 ev1
        exact ⟨_, rfl, rfl, _, rfl, iteT (iteT qq)⟩
      | some t1 =>
        have d1 := (e1 t1 ev1).same s2
        obtain ⟨p1, xs1, rfl, hs1, k1⟩ := Tm.tup d1
        cases ev2 : o2.val tm with
        | none =>
          rw [ev2, lessB_none_r] at ew'
          subst ew'
          obtain rfl := n2 ev2
          exact ⟨_, rfl, rfl, _, rfl, iteF ⟨_, rfl, rfl, _, rfl, iteT (iteT qq)⟩⟩
        | some t2 =>
          have d2 := e2 t2 ev2
          obtain ⟨p2, xs2, rfl, hs2, k2⟩ := Tm.tup d2
          rw [ev1, ev2] at ew'
          refine ⟨_, rfl, rfl, _, rfl, iteF ⟨_, rfl, rfl, _, rfl, iteF (vTx rfl hs1 k1 (vTx rfl hs2 k2 ⟨rfl, _, rfl, ?_⟩))⟩⟩
          by_cases eh : t1.hd = t2.hd
          · refine nF eh ?_
            refine ⟨_, rfl, rfl, _, rfl, sT rfl ?_⟩
            refine vTx rfl hs1 k1 ⟨rfl, _, rfl, ?_⟩
            by_cases ei : t1.hd = "int"
            · obtain ⟨i, rfl⟩ := hd_int ei
              obtain ⟨j, rfl⟩ := hd_int (t := t2) (by rw [← eh]; rfl)
              obtain ⟨p3, x3, y3, e3, s3, g1, g2⟩ := Dt.t2 d1
              obtain ⟨p4, x4, y4, e4, s4, g3, g4⟩ := Dt.t2 d2
              cases e3; cases e4
              obtain rfl := g2.i
              obtain rfl := g4.i
              refine sT rfl (vTx rfl s3 rfl (vTx rfl s4 rfl ⟨_, _, rfl, rfl, ?_⟩))
              have ew2 : decide (i < j) = bb := ew'
              show Q (.bl (decide (i < j))) _
              rw [ew2]
              exact qq
            · rw [lessB_int _ ei] at ew'
              subst ew'
              refine sF ei ?_
              have e0 : decide (V.str t1.hd = V.str "int") = false := decide_eq_false fun z => ei (V.str.inj z)
              first | exact qq | (rw [e0]; exact qq) | (show Q (.bl false) _; exact qq)
          · rw [lessB_hd eh] at ew'
            subst ew'
            exact nT eh qq
end
end PK
namespace PK
open PySem L2
def Cd.ops : Cd → List Op
  | .kind _ w => [.mv w]
  | .eq a b => [a, b]
  | .less a b => [a, b]
  | .has w k => [.mv w, k]
def Cn.ops : Cn → List Op
  | .pl c => c.ops
  | .no c => c.ops
def Op.isU : Op → Bool
  | .atm _ => false
  | _ => true
def Op.wd : Op → Str
  | .atm _ => ""
  | .sum w _ => w
  | .mv w => w
theorem Op.wlen (o : Op) : o.words.length ≤ 1 := by
  cases o
  · exact Nat.zero_le _
  · exact Nat.le_refl _
  · exact Nat.le_refl _
theorem Op.words_eq (o : Op) : o.words = ([o].filter Op.isU).map Op.wd := by cases o <;> rfl
theorem Cd.words_eq (c : Cd) : c.words = (c.ops.filter Op.isU).map Op.wd := by
  have two : ∀ a b : Op, a.words ++ b.words = (([a, b] : List Op).filter Op.isU).map Op.wd := fun a b => by
    rw [a.words_eq, b.words_eq, ← List.map_append, ← List.filter_append]; rfl
  cases c with
  | kind k w => rfl
  | eq a b => exact two a b
  | less a b => exact two a b
  | has w k => exact two (.mv w) k
theorem Cn.words_eq (c : Cn) : c.words = (c.ops.filter Op.isU).map Op.wd := by
  cases c with
  | pl c => exact c.words_eq
  | no c => exact c.words_eq
theorem Cd.ops_len (c : Cd) : c.ops.length ≤ 2 := by
  cases c <;> simp [Cd.ops]
theorem Cn.ops_len (c : Cn) : c.ops.length ≤ 2 := by
  cases c with
  | pl c => exact c.ops_len
  | no c => exact c.ops_len
def spOps (K : PySem.W.Frag) (n : Nat) : Sp := fun vs H Q _ => ∃ (v : V) (cn : Cn), vs = [v] ∧ Dt K H v cn.d ∧ (3 ≤ n ∨ (2 ≤ n ∧ ∃ c, cn = .pl c)) ∧
  ∀ (H' : Hp) (p : Addr) (ws : List V), Same H H' → H p = none → H' p = some (.lst ws) → DtAll K H' ws (cn.ops.map Op.d) → Q (.ref p) H'
def spUno (K : PySem.W.Frag) : Sp := fun vs H Q _ => ∃ (v : V) (cn : Cn), vs = [v] ∧ Dt K H v cn.d ∧
  ∀ (H' : Hp) (p : Addr) (ws : List V), Same H H' → H p = none → H' p = some (.lst ws) → DtAll K H' ws ((cn.ops.filter Op.isU).map Op.d) → Q (.ref p) H'
def spWof (K : PySem.W.Frag) (n : Nat) : Sp := fun vs H Q _ => ∃ (v : V) (cn : Cn) (sure : List Str), vs = [v] ∧ Dt K H v cn.d ∧ cn.Ok sure ∧ (3 ≤ n ∨ (2 ≤ n ∧ ∃ c, cn = .pl c)) ∧
  ∀ (H' : Hp) (p : Addr), Same H H' → H p = none → H' p = some (.lst (cn.words.map V.str)) → Q (.ref p) H'
theorem DtAll.append {K : PySem.W.Frag} {H : Hp} : ∀ {xs ys : List V} {ds es : List PyData}, DtAll K H xs ds → DtAll K H ys es → DtAll K H (xs ++ ys) (ds ++ es)
  | _, _, _, _, .nil, h => h
  | _, _, _, _, .cons a b, h => .cons a (DtAll.append b h)
/-- a list that grows is no tuple -/
theorem seqT_upd {K : PySem.W.Frag} {H : Hp} {D a : Addr} {vs ws zs : List V} (h : SqT K H a zs) (hD : H D = some (.lst vs)) : SqT K (upd H D (.lst ws)) a zs := by
  rcases h with (h | ⟨o, h⟩) | h
  · exact .inl (.inl (by rw [upd_ne (ne_of h hD (fun z => by cases z))]; exact h))
  · exact .inl (.inr ⟨o, by rw [upd_ne (ne_of h hD (fun z => by cases z))]; exact h⟩)
  · exact .inr h
theorem DtAll.getE {K : PySem.W.Frag} {H : Hp} {xs : List V} {os : List Op} {i : Nat} {x : V} (h : DtAll K H xs (os.map Op.d)) (e : xs[i]? = some x) : ∃ o, os[i]? = some o ∧ Dt K H x o.d := by
  obtain ⟨d, h1, h2⟩ := DtAll.get h e
  rw [List.getElem?_map] at h1
  cases e2 : os[i]? with
  | none => rw [e2] at h1; cases h1
  | some o => rw [e2] at h1; cases h1; exact ⟨o, rfl, h2⟩
theorem DtAll.lenE {K : PySem.W.Frag} {H : Hp} : ∀ {xs : List V} {ds : List PyData}, DtAll K H xs ds → xs.length = ds.length
  | _, _, .nil => rfl
  | _, _, .cons _ t => by rw [List.length_cons, List.length_cons, DtAll.lenE t]
section
variable {P : Program} {w : World} {K : PySem.W.Frag} {mg : Str → Option Value} {base : Heap} {aC dH : Addr}
abbrev s_operands_of : Stmt := topS 6
theorem sc_operands_of : FnScope ["condition", "head", "one"] ["condition"] (defScope s_operands_of) := ⟨rfl, rfl, rfl, by decide +kernel, rfl, by decide +kernel, by decide +kernel⟩
-- slots: 0:condition 1:head 2:one
abbrev s_unknown_operands : Stmt := topS 7
theorem sc_unknown_operands : FnScope ["condition", "operand"] ["condition"] (defScope s_unknown_operands) := ⟨rfl, rfl, rfl, by decide +kernel, rfl, by decide +kernel, by decide +kernel⟩
-- slots: 0:condition 1:operand(comp)
abbrev s_words_of : Stmt := topS 8
theorem sc_words_of : FnScope ["condition", "operand"] ["condition"] (defScope s_words_of) := ⟨rfl, rfl, rfl, by decide +kernel, rfl, by decide +kernel, by decide +kernel⟩
-- slots: 0:condition 1:operand(comp)
theorem ok_ops {n : Nat} {f : Addr} {fd : FuncData} (hn : 1 ≤ n) (F : Fun K "operands_of" "operands_of" s_operands_of f fd) (T : TxtP K w mg aC dH) (C_operands_of : C8.Cal P w K mg base n "operands_of" (spOps K n) []) :
    FnOk P w K mg base CX0 (n + 1) f fd ["condition"] (spOps K (n + 1)) := by
  refine F.ok sc_operands_of (fun vs H Q E h => ?_) (fun cdv A outer s H vs Q E hr h => ?_)
  · obtain ⟨v, cn, rfl, _⟩ := h
    rfl
  obtain ⟨v, cn, rfl, hv, hlev, q⟩ := h
  obtain ⟨es, nn, D⟩ := T.kd
  refine ⟨_, (pss_cons (ps_par (i := 1) (j := 2) (by rfl) sc_operands_of.nd rfl rfl (by decide) rfl rfl (pa_cons (pe_ix ix_tup (pv 0) pe_int (fun _ _ => rfl)) (pa_cons (pe_ix ix_tup (pv 0) pe_int (fun _ _ => rfl)) pa_nil)) (by rfl))
    (pss_cons (ps_if (pt_cmpR op_eq (pv 1) pe_str (nomark _)) (pss_one (ps_ret (C8.pe_c C_operands_of hr (by omega) rfl (pa_cons (pv 2) pa_nil)))) pss_nil)
    (pss_cons (ps_if (pt_cmpR (op_in_kd D) (pv 1) (pe_glob (v := .ref _) rfl T.g_HEADS rfl) rfl) (pss_one (ps_ret (pe_lst (pa_cons (pe_tup (pa_cons pe_str (pa_cons (pv 2) pa_nil))) pa_nil)))) pss_nil)
    (pss_cons (ps_if (pt_cmpR op_eq (pv 1) pe_str (nomark _)) (pss_one (ps_ret (pe_lst (pa_cons (pe_tup (pa_cons pe_str (pa_cons (pv 2) pa_nil))) (pa_cons (pe_ix ix_tup (pv 0) pe_int (fun _ _ => rfl)) pa_nil))))) pss_nil)
    (pss_one (ps_ret (pe_lst (pa_cons (pv 2) (pa_cons (pe_ix ix_tup (pv 0) pe_int (fun _ _ => rfl)) pa_nil))))))))), ?_⟩
  cases cn with
  | no c =>
    obtain ⟨p, x, y, rfl, hs, h1, h2⟩ := Dt.t2 hv
    obtain rfl := h1.s
    refine vTx rfl hs rfl (vTx rfl hs rfl ⟨_, _, rfl, ?_⟩)
    refine ⟨_, rfl, rfl, _, rfl, sT rfl ⟨_, rfl, y, .pl c, rfl, h2, ?_, fun H' p' ws sm hn' hl da => q H' p' ws sm hn' hl da⟩⟩
    rcases hlev with h | ⟨_, c', h⟩
    · exact .inr ⟨by omega, c, rfl⟩
    · cases h
  | pl c =>
    cases c with
    | kind k x =>
      obtain ⟨p, x1, y, rfl, hs, h1, h2⟩ := Dt.t2 hv
      obtain rfl := h1.s
      obtain rfl := h2.s
      obtain ⟨t0, hk0⟩ := T.kind k
      refine vTx rfl hs rfl (vTx rfl hs rfl ⟨_, _, rfl, ?_⟩)
      refine ⟨_, rfl, rfl, _, rfl, sF k.not ⟨_, rfl, _, _, rfl, rfl, hk0, _, rfl, iteT ⟨_, rfl, small (by show 2 ≤ _; decide), fun t ht => ⟨small (by show 1 ≤ _; decide), fun p2 hp2 => ?_⟩⟩⟩⟩
      have s2 := (same_new (o := .tup [.str "meta", .str x]) ht).trans (same_new (o := .lst [.ref t]) hp2)
      refine q _ p2 _ s2 ((same_new ht).free hp2) upd_same (.cons ?_ .nil)
      exact (Dt.mk2 ht (.str _) (.str x)).new hp2
    | has x k =>
      obtain ⟨p, x1, y, z, rfl, hs, h1, h2, h3⟩ := Dt.t3 hv
      obtain rfl := h1.s
      obtain rfl := h2.s
      refine vTx rfl hs rfl (vTx rfl hs rfl ⟨_, _, rfl, ?_⟩)
      refine ⟨_, rfl, rfl, _, rfl, sF (by decide +kernel) ⟨_, rfl, _, _, rfl, rfl, T.no3, _, rfl, iteF ⟨_, rfl, rfl, _, rfl, sT rfl ⟨_, rfl, small (by show 2 ≤ _; decide), fun t ht => ?_⟩⟩⟩⟩
      refine vTx rfl (Same.seqT (same_new ht) hs) rfl ⟨small (by show 2 ≤ _; decide), fun p2 hp2 => ?_⟩
      have s2 := (same_new (o := .tup [.str "meta", .str x]) ht).trans (same_new (o := .lst [.ref t, z]) hp2)
      exact q _ p2 _ s2 ((same_new ht).free hp2) upd_same (.cons ((Dt.mk2 ht (.str _) (.str x)).new hp2) (.cons (h3.same s2) .nil))
    | eq o1 o2 =>
      obtain ⟨p, x1, y, z, rfl, hs, h1, h2, h3⟩ := Dt.t3 hv
      obtain rfl := h1.s
      refine vTx rfl hs rfl (vTx rfl hs rfl ⟨_, _, rfl, ?_⟩)
      refine ⟨_, rfl, rfl, _, rfl, sF (by decide +kernel) ⟨_, rfl, _, _, rfl, rfl, T.no1, _, rfl, iteF ⟨_, rfl, rfl, _, rfl, sF (by decide +kernel) ?_⟩⟩⟩
      refine ⟨_, rfl, vTx rfl hs rfl ⟨small (by show 2 ≤ _; decide), fun p2 hp2 => ?_⟩⟩
      exact q _ p2 _ (same_new hp2) hp2 upd_same (.cons (h2.new hp2) (.cons (h3.new hp2) .nil))
    | less o1 o2 =>
      obtain ⟨p, x1, y, z, rfl, hs, h1, h2, h3⟩ := Dt.t3 hv
      obtain rfl := h1.s
      refine vTx rfl hs rfl (vTx rfl hs rfl ⟨_, _, rfl, ?_⟩)
      refine ⟨_, rfl, rfl, _, rfl, sF (by decide +kernel) ⟨_, rfl, _, _, rfl, rfl, T.no2, _, rfl, iteF ⟨_, rfl, rfl, _, rfl, sF (by decide +kernel) ?_⟩⟩⟩
      refine ⟨_, rfl, vTx rfl hs rfl ⟨small (by show 2 ≤ _; decide), fun p2 hp2 => ?_⟩⟩
      exact q _ p2 _ (same_new hp2) hp2 upd_same (.cons (h2.new hp2) (.cons (h3.new hp2) .nil))
/-- the head of an operand, and whether it is an unknown's -/
theorem Op.hd_is {o : Op} {H : Hp} {v : V} (h : Dt K H v o.d) : ∃ (p : Addr) (s : Str) (r : List V), v = .ref p ∧ SqT K H p (.str s :: r) ∧ inV (.str s) [V.str "meta", V.str "sum"] = o.isU ∧ (o.isU = true → ∃ r', r = .str o.wd :: r') := by
  have iv : ∀ s : Str, inV (.str s) [V.str "meta", V.str "sum"] = decide (s ∈ (["meta", "sum"] : List Str)) := fun s => by
    rw [show ([V.str "meta", V.str "sum"] : List V) = (["meta", "sum"] : List Str).map V.str from rfl, inV_str s ["meta", "sum"]]
  cases o with
  | atm a =>
    obtain ⟨p, x, y, rfl, hs, h1, h2⟩ := Dt.t2 h
    obtain rfl := h1.s
    refine ⟨p, a.hd, _, rfl, hs, ?_, fun z => nomatch z⟩
    rw [iv]
    exact decide_eq_false fun m => by
      rcases List.mem_cons.mp m with h | h
      · exact a.hd_meta h
      · exact a.hd_sum (List.mem_singleton.mp h)
  | mv x =>
    obtain ⟨p, x1, y, rfl, hs, h1, h2⟩ := Dt.t2 h
    obtain rfl := h1.s
    obtain rfl := h2.s
    exact ⟨p, _, _, rfl, hs, by rw [iv]; exact decide_eq_true (by decide +kernel), fun _ => ⟨_, rfl⟩⟩
  | sum x n =>
    obtain ⟨p, x1, y, z, rfl, hs, h1, h2, h3⟩ := Dt.t3 h
    obtain rfl := h1.s
    obtain rfl := h2.s
    exact ⟨p, _, _, rfl, hs, by rw [iv]; exact decide_eq_true (by decide +kernel), fun _ => ⟨_, rfl⟩⟩
theorem ok_uno {f : Addr} {fd : FuncData} (F : Fun K "unknown_operands" "unknown_operands" s_unknown_operands f fd) (C_operands_of : C8.Cal P w K mg base 3 "operands_of" (spOps K 3) []) :
    FnOk P w K mg base CX0 4 f fd ["condition"] (spUno K) := by
  refine F.ok sc_unknown_operands (fun vs H Q E h => ?_) (fun cdv A outer s H vs Q E hr h => ?_)
  · obtain ⟨v, cn, rfl, _⟩ := h
    rfl
  obtain ⟨v, cn, rfl, hv, q⟩ := h
  refine ⟨_, (pss_one (ps_ret (pe_lc (own := [("operand", 1)]) (g := (gName 1)) (by rfl) sc_unknown_operands.nd (pi_list (C8.pe_c C_operands_of hr (by decide) rfl (pa_cons (pv 0) pa_nil))) (blkOk_by (N := ["condition", "operand"]) (sc := defScope s_unknown_operands) (by decide +kernel)) (fun _ _ _ _ _ => (pg_name (i := 1) sc_unknown_operands.nd rfl (Or.inl rfl))) (fun _ _ _ _ _ => pts_one (pt_cmpR (r := rIn K false) op_in_seq (pe_ix (r := rIxT K) ix_tup (pv 1) pe_int (fun _ _ => rfl)) (pe_tup (pa_cons pe_str (pa_cons pe_str pa_nil))) rfl)) (fun _ _ _ _ _ => (pv 1))))), ?_⟩
  refine ⟨_, rfl, v, cn, rfl, hv, .inl (by decide), fun H1 p ws s1 n1 l1 da => ?_⟩
  have lo := cn.ops_len
  have lw : ws.length = cn.ops.length := by rw [DtAll.lenE da, List.length_map]
  refine ⟨p, rfl, ⟨_, SqL.of l1⟩, fun D hD => lc_list (xs := ws) (fun i H' => ∃ vs : List V, i ≤ ws.length ∧ Same H1 H' ∧ H' D = some (.lst vs) ∧ DtAll K H' vs (((cn.ops.take i).filter Op.isU).map Op.d)) ?_ (fun i H' _ h => ?_) ?_ ?_⟩
  · exact ⟨[], Nat.zero_le _, same_new hD, upd_same, .nil⟩
  · obtain ⟨_, _, sm, _⟩ := h
    exact SqL.of (sm _ _ l1)
  · rintro i x H' gx ⟨vs, hi, sm, hDv, dv⟩
    have hi' : i < ws.length := (List.getElem?_eq_some_iff.mp gx).1
    obtain ⟨o, go, dO⟩ := DtAll.getE da gx
    have dO' := dO.same sm
    obtain ⟨po, so, r, rfl, hso, hin, hwd⟩ := Op.hd_is dO'
    have two : ([V.str "meta", V.str "sum"] : List V).length ≤ sizeLine := small (by decide)
    have lv : vs.length ≤ 2 := by
      have := DtAll.lenE dv
      rw [List.length_map] at this
      have := List.length_filter_le Op.isU (cn.ops.take i)
      have := List.length_take_le' i cn.ops
      omega
    have tk : (cn.ops.take (i + 1)).filter Op.isU = (cn.ops.take i).filter Op.isU ++ [o].filter Op.isU := by rw [List.take_add_one, go, List.filter_append]; rfl
    refine ⟨rfl, vTx (v := .str so) rfl hso (atI_nat (j := 0) rfl) ⟨two, fun t ht => ⟨t, _, rfl, .inr (SqT.of upd_same), rfl, rfl, ?_⟩⟩⟩
    have nD : D ≠ t := ne_of_none hDv ht
    have hD2 : (upd H' t (.tup [.str "meta", .str "sum"])) D = some (.lst vs) := by rw [upd_ne nD]; exact hDv
    have sm2 := (same_new (H := H') (o := .tup [.str "meta", .str "sum"]) ht)
    refine ⟨_, rfl, ?_⟩
    rw [if_neg Bool.false_ne_true, hin]
    cases ou : o.isU with
    | true =>
      refine iteT ⟨_, rfl, vs, hD2, smallL (by omega), vs ++ [.ref po], hi', Same.upd (sm.trans sm2) hD, upd_same, ?_⟩
      rw [tk, List.filter_cons_of_pos ou, List.map_append]
      exact DtAll.mono (fun _ _ z => seqT_upd z hD2) _ _ (DtAll.append (DtAll.mono (fun _ _ z => Same.seqT sm2 z) _ _ dv) (.cons (dO'.same sm2) .nil))
    | false =>
      refine iteF ⟨vs, hi', sm.trans sm2, hD2, ?_⟩
      rw [tk, List.filter_cons_of_neg (by rw [ou]; exact Bool.false_ne_true), List.filter_nil, List.append_nil]
      exact DtAll.mono (fun _ _ z => Same.seqT sm2 z) _ _ dv
  · rintro H' ⟨vs, _, sm, hDv, dv⟩
    rw [lw, List.take_length] at dv
    exact q _ D _ (s1.trans sm) (s1.free hD) hDv dv
theorem ok_wof {f : Addr} {fd : FuncData} (F : Fun K "words_of" "words_of" s_words_of f fd) (C_unknown_operands : C8.Cal P w K mg base 4 "unknown_operands" (spUno K) []) :
    FnOk P w K mg base CX0 5 f fd ["condition"] (spWof K 3) := by
  refine F.ok sc_words_of (fun vs H Q E h => ?_) (fun cdv A outer s H vs Q E hr h => ?_)
  · obtain ⟨v, cn, su, rfl, _⟩ := h
    rfl
  obtain ⟨v, cn, su, rfl, hv, hok, hlev, q⟩ := h
  refine ⟨_, (pss_one (ps_ret (pe_lc (own := [("operand", 1)]) (g := (gName 1)) (tt := tYes) (by rfl) sc_words_of.nd (pi_list (C8.pe_c C_unknown_operands hr (by decide) rfl (pa_cons (pv 0) pa_nil))) (blkOk_by (N := ["condition", "operand"]) (sc := defScope s_words_of) (by decide +kernel)) (fun _ _ _ _ _ => (pg_name (i := 1) sc_words_of.nd rfl (Or.inl rfl))) (fun _ _ _ _ _ => pts_nil) (fun _ _ _ _ _ => (pe_ix (r := rIxT K) ix_tup (pv 1) pe_int (fun _ _ => rfl)))))), ?_⟩
  refine ⟨_, rfl, v, cn, rfl, hv, fun H1 p ws s1 n1 l1 da => ?_⟩
  have lo := cn.ops_len
  refine ⟨p, rfl, ⟨_, SqL.of l1⟩, fun D hD => lc_list (xs := ws) (fun i H' => i ≤ ws.length ∧ Same H1 H' ∧ H' D = some (.lst ((((cn.ops.filter Op.isU).take i).map Op.wd).map V.str))) ?_ (fun i H' _ h => SqL.of (h.2.1 _ _ l1)) ?_ ?_⟩
  · exact ⟨Nat.zero_le _, same_new hD, upd_same⟩
  · rintro i x H' gx ⟨hi, sm, hDv⟩
    have hi' : i < ws.length := (List.getElem?_eq_some_iff.mp gx).1
    obtain ⟨o, go, dO⟩ := DtAll.getE da gx
    have ou : o.isU = true := (List.mem_filter.mp (List.mem_of_getElem? go)).2
    obtain ⟨po, so, r, rfl, hso, hin, hwd⟩ := Op.hd_is (dO.same sm)
    obtain ⟨r', rfl⟩ := hwd ou
    refine ⟨rfl, yes_ (vTx rfl hso (atI_nat (j := 1) rfl) ⟨_, hDv, ?_, hi', Same.upd sm hD, ?_⟩)⟩
    · rw [List.length_map, List.length_map]
      have := List.length_take_le' i (cn.ops.filter Op.isU)
      have := List.length_filter_le Op.isU cn.ops
      exact smallL (by omega)
    · rw [upd_same, List.take_add_one, go, List.map_append, List.map_append]; rfl
  · rintro H' ⟨_, sm, hDv⟩
    rw [DtAll.lenE da, List.length_map, List.take_length, ← Cn.words_eq] at hDv
    exact q _ D (s1.trans sm) (s1.free hD) hDv
end
end PK
namespace PK
open PySem L2
/-- a list of words at p, not the pool -/
structure Nm (H : Hp) (l p : Addr) (ws : List Str) : Prop where
  at_ : H p = some (.lst (ws.map V.str))
  ne : p ≠ l
  ne0 : 1 ≤ ws.length
  le : ws.length ≤ 25
  wd : ∀ x ∈ ws, Wd x
theorem Nm.ext {H H' : Hp} {l c p : Addr} {ws : List Str} (N : Nm H l p ws) (x : Ext l c H H') : Nm H' l p ws := ⟨x.keep _ _ N.ne N.at_, N.ne, N.ne0, N.le, N.wd⟩
theorem seqT_updK {K : PySem.W.Frag} {H : Hp} {D a : Addr} {kvs kvs' : List (Key × V)} {zs : List V} (h : SqT K H a zs) (hD : H D = some (.dK kvs)) : SqT K (upd H D (.dK kvs')) a zs := by
  rcases h with (h | ⟨o, h⟩) | h
  · exact .inl (.inl (by rw [upd_ne (ne_of h hD (fun z => by cases z))]; exact h))
  · exact .inl (.inr ⟨o, by rw [upd_ne (ne_of h hD (fun z => by cases z))]; exact h⟩)
  · exact .inr h
theorem valV_hd {k : Key} {v : V} {r : List (Key × V)} : valV ((k, v) :: r) k = some v := by simp [valV]
theorem valV_tl {k k' : Key} {v : V} {r : List (Key × V)} (h : k' ≠ k) : valV ((k', v) :: r) k = valV r k := by simp [valV, h]
def Box (H : Hp) (l bx : Addr) (names sure : List Str) : Prop := ∃ pn ps : Addr, H bx = some (.dK [(Sum.inr "names", .ref pn), (Sum.inr "sure", .ref ps)]) ∧ bx ≠ l ∧ Nm H l pn names ∧ Nm H l ps sure
theorem Box.ext {H H' : Hp} {l c bx : Addr} {names sure : List Str} (B : Box H l bx names sure) (x : Ext l c H H') : Box H' l bx names sure := by
  obtain ⟨pn, ps, h, ne, N, S⟩ := B
  exact ⟨pn, ps, x.keep _ _ ne h, ne, N.ext x, S.ext x⟩
theorem Box.get {H : Hp} {l bx : Addr} {names sure : List Str} (B : Box H l bx names sure) : (∃ pn, DGet H bx (.str "names") (some (.ref pn)) ∧ Nm H l pn names) ∧ ∃ ps, DGet H bx (.str "sure") (some (.ref ps)) ∧ Nm H l ps sure := by
  obtain ⟨pn, ps, h, ne, N, S⟩ := B
  have ne' : (Sum.inr ("names" : Str) : Key) ≠ Sum.inr ("sure" : Str) := by decide +kernel
  have e1 : valV [((Sum.inr "names" : Key), V.ref pn), (Sum.inr "sure", V.ref ps)] (Sum.inr "names") = some (.ref pn) := valV_hd
  have e2 : valV [((Sum.inr "names" : Key), V.ref pn), (Sum.inr "sure", V.ref ps)] (Sum.inr "sure") = some (.ref ps) := (valV_tl ne').trans valV_hd
  exact ⟨⟨pn, by rw [← e1]; exact DGet.k (k := Sum.inr "names") h, N⟩, ps, by rw [← e2]; exact DGet.k (k := Sum.inr "sure") h, S⟩
def spNum : Sp := fun vs H Q _ => ∃ (l c : Addr), vs = [.ref l] ∧ Pool H l c ∧ ∀ (i : Int) (H' : Hp), Ext l c H H' → Q (.int i) H'
def spAtom (K : PySem.W.Frag) : Sp := fun vs H Q _ => ∃ (l c pn : Addr) (names : List Str), vs = [.ref l, .ref pn] ∧ Pool H l c ∧ Nm H l pn names ∧
  ∀ (v : V) (a : At) (H' : Hp), Ext l c H H' → Dt K H' v a.d → a.W → Q v H'
def spPick : Sp := fun vs H Q _ => ∃ (l c p : Addr) (ws : List Str), vs = [.ref l, .ref p] ∧ Pool H l c ∧ Nm H l p ws ∧
  ∀ (x : Str) (H' : Hp), Ext l c H H' → x ∈ ws → Q (.str x) H'
def spOperand (K : PySem.W.Frag) : Sp := fun vs H Q _ => ∃ (l c bx : Addr) (names sure : List Str), vs = [.ref l, .ref bx] ∧ Pool H l c ∧ Box H l bx names sure ∧
  ∀ (v : V) (o : Op) (H' : Hp), Ext l c H H' → Dt K H' v o.d → o.W → (∀ x ∈ o.words, x ∈ sure) → Q v H'
def spCond (K : PySem.W.Frag) : Sp := fun vs H Q _ => ∃ (l c bx : Addr) (names sure : List Str), vs = [.ref l, .ref bx] ∧ Pool H l c ∧ Box H l bx names sure ∧
  ∀ (v : V) (d : Cd) (H' : Hp), Ext l c H H' → Dt K H' v d.d → d.W → d.Ok sure → Q v H'
def spWorth (K : PySem.W.Frag) : Sp := fun vs H Q _ => ∃ (l c pn : Addr) (names : List Str), vs = [.ref l, .ref pn] ∧ Pool H l c ∧ Nm H l pn names ∧
  ∀ (v : V) (t : Tm) (H' : Hp), Ext l c H H' → Dt K H' v t.d → t.W → Q v H'
section
variable {P : Program} {w : World} {K : PySem.W.Frag} {mg : Str → Option Value} {base : Heap}
abbrev s_law_number : Stmt := topS 13
theorem sc_law_number : FnScope ["pool"] ["pool"] (defScope s_law_number) := ⟨rfl, rfl, rfl, by decide +kernel, rfl, by decide +kernel, by decide +kernel⟩
-- slots: 0:pool
theorem ok_number {f : Addr} {fd : FuncData} (F : Fun K "_law_number" "_law_number" s_law_number f fd) (C_law_take : C8.Cal P w K mg base 2 "_law_take" (spTake 2) []) :
    FnOk P w K mg base CX0 3 f fd ["pool"] spNum := by
  refine F.ok sc_law_number (fun vs H Q E h => ?_) (fun cdv A outer s H vs Q E hr h => ?_)
  · obtain ⟨l, c, rfl, _⟩ := h
    rfl
  obtain ⟨l, c, rfl, P0, q⟩ := h
  refine ⟨_, (pss_cons (ps_if (pt_cmpR op_eq (C8.pe_c C_law_take hr (by decide) rfl (pa_cons (pv 0) (pa_cons pe_int pa_nil))) pe_int (nomark _)) (pss_one (ps_ret (pe_op op_mul (pe_op op_add (pe_op op_mul (C8.pe_c C_law_take hr (by decide) rfl (pa_cons (pv 0) (pa_cons (pe_op op_pow pe_int pe_int) pa_nil))) (pe_op op_pow pe_int pe_int)) (C8.pe_c C_law_take hr (by decide) rfl (pa_cons (pv 0) (pa_cons (pe_op op_pow pe_int pe_int) pa_nil)))) (pe_ix ix_tup (pe_tup (pa_cons pe_int (pa_cons (pe_un un_neg pe_int) pa_nil))) (C8.pe_c C_law_take hr (by decide) rfl (pa_cons (pv 0) (pa_cons pe_int pa_nil))) (fun _ _ => rfl))))) pss_nil)
    (pss_one (ps_ret (pe_op op_sub (C8.pe_c C_law_take hr (by decide) rfl (pa_cons (pv 0) (pa_cons pe_int pa_nil))) pe_int)))), ?_⟩
  have p9 : CPow 10 9 := ⟨by decide, by decide, by decide⟩
  have p6 : CPow 10 6 := ⟨by decide, by decide, by decide⟩
  refine vTake rfl P0 (by decide) (by decide) fun d H1 d0 d1 x1 => ⟨rfl, _, rfl, ?_⟩
  refine ite2 (fun _ => ?_) (fun _ => ?_)
  · refine ⟨_, rfl, _, _, rfl, rfl, p9, l, c, 10 ^ 9, False, rfl, x1.pool, by decide, by decide, .inl (Nat.le_refl 2), fun a H2 a0 a1 x2 => ?_⟩
    refine ⟨_, _, rfl, rfl, p6, _, _, rfl, rfl, .inr ⟨by decide, by decide⟩, ?_⟩
    refine ⟨_, rfl, _, _, rfl, rfl, p6, l, c, 10 ^ 6, False, rfl, x2.pool, by decide, by decide, .inl (Nat.le_refl 2), fun b H3 b0 b1 x3 => ?_⟩
    refine ⟨_, _, rfl, rfl, _, rfl, small (by show 2 ≤ _; decide), fun p hp => ?_⟩
    have x4 := (x1.trans (x2.trans x3)).new (o := .tup [.int 1, .int (-1)]) P0 hp
    refine vTake rfl x4.pool (by decide) (by decide) fun e H4 e0 e1 x5 => ?_
    have hs : SqT K H4 p [.int 1, .int (-1)] := x5.seqT x4.pool (SqT.of upd_same)
    rcases (by omega : e = 0 ∨ e = 1) with rfl | rfl
    · exact ⟨p, _, _, _, rfl, rfl, hs, rfl, _, _, rfl, rfl, .inr ⟨by decide, by decide⟩, q _ _ (x4.trans x5)⟩
    · exact ⟨p, _, _, _, rfl, rfl, hs, rfl, _, _, rfl, rfl, .inr ⟨by decide, by decide⟩, q _ _ (x4.trans x5)⟩
  · refine vTake rfl x1.pool (by decide) (by decide) fun e H2 e0 e1 x2 => ⟨_, _, rfl, rfl, q _ _ (x1.trans x2)⟩
theorem Nm.pick {K : PySem.W.Frag} {H H' : Hp} {l c p : Addr} {ws : List Str} (N : Nm H l p ws) (x : Ext l c H H') {d : Int} (h0 : 0 ≤ d) (h1 : d < ((ws.map V.str).length : Int)) {Q : VK} (q : ∀ y, y ∈ ws → Q (.str y) H') : rIxL K (.ref p) (.int d) H' Q := by
  rw [List.length_map] at h1
  obtain ⟨j, rfl⟩ : ∃ j : Nat, d = j := ⟨d.toNat, by omega⟩
  have hj : j < ws.length := by omega
  exact ⟨p, _, _, _, rfl, rfl, SqL.of (x.keep _ _ N.ne N.at_), atI_nat (by rw [List.getElem?_map, List.getElem?_eq_getElem hj]; rfl), q _ (List.getElem_mem hj)⟩
theorem Nm.bd {H : Hp} {l p : Addr} {ws : List Str} (N : Nm H l p ws) : (0 : Int) < ((ws.map V.str).length : Int) ∧ ((ws.map V.str).length : Int) < 18446744073709551616 := by
  rw [List.length_map]
  have := N.ne0
  have := N.le
  omega
abbrev s_law_pick : Stmt := topS 15
theorem sc_law_pick : FnScope ["pool", "rows"] ["pool", "rows"] (defScope s_law_pick) := ⟨rfl, rfl, rfl, by decide +kernel, rfl, by decide +kernel, by decide +kernel⟩
-- slots: 0:pool 1:rows
theorem ok_pick {f : Addr} {fd : FuncData} (F : Fun K "_law_pick" "_law_pick" s_law_pick f fd) (T : Txt K mg) (C_law_take : C8.Cal P w K mg base 2 "_law_take" (spTake 2) []) :
    FnOk P w K mg base CX0 3 f fd ["pool", "rows"] spPick := by
  refine F.ok sc_law_pick (fun vs H Q E h => ?_) (fun cdv A outer s H vs Q E hr h => ?_)
  · obtain ⟨l, c, p, ws, rfl, _⟩ := h
    rfl
  obtain ⟨l, c, p, ws, rfl, P0, N, q⟩ := h
  refine ⟨_, (pss_one (ps_ret (pe_ix ix_list (pv 1) (C8.pe_c C_law_take hr (by decide) rfl (pa_cons (pv 0) (pa_cons (pe_callB call_len_seq (by rfl) T.z_len (by decide +kernel) (pa_cons (pv 1) pa_nil)) pa_nil))) (fun _ _ => rfl)))), ?_⟩
  refine ⟨_, rfl, _, rfl, _, rfl, p, _, rfl, .inl (SqL.of N.at_), l, c, _, False, rfl, P0, N.bd.1, N.bd.2, .inl (Nat.le_refl 2), fun d H1 d0 d1 x1 => ?_⟩
  exact N.pick x1 d0 d1 fun y hy => q y _ x1 hy
abbrev s_law_atom : Stmt := topS 14
theorem sc_law_atom : FnScope ["pool", "names", "kind"] ["pool", "names"] (defScope s_law_atom) := ⟨rfl, rfl, rfl, by decide +kernel, rfl, by decide +kernel, by decide +kernel⟩
-- slots: 0:pool 1:names 2:kind
theorem ok_atom {f : Addr} {fd : FuncData} (F : Fun K "_law_atom" "_law_atom" s_law_atom f fd) (T : Txt K mg) (C_law_take : C8.Cal P w K mg base 2 "_law_take" (spTake 2) [])
    (C_law_number : C8.Cal P w K mg base 3 "_law_number" spNum []) : FnOk P w K mg base CX0 4 f fd ["pool", "names"] (spAtom K) := by
  refine F.ok sc_law_atom (fun vs H Q E h => ?_) (fun cdv A outer s H vs Q E hr h => ?_)
  · obtain ⟨l, c, p, ws, rfl, _⟩ := h
    rfl
  obtain ⟨l, c, p, ws, rfl, P0, N, q⟩ := h
  refine ⟨_, (pss_cons (ps_set (i := 2) sc_law_atom.nd rfl (Or.inl rfl) (C8.pe_c C_law_take hr (by decide) rfl (pa_cons (pv 0) (pa_cons pe_int pa_nil))))
    (pss_cons (ps_if (pt_cmpR op_lt (pv 2) pe_int (nomark _)) (pss_one (ps_ret (pe_tup (pa_cons pe_str (pa_cons (C8.pe_c C_law_number hr (by decide) rfl (pa_cons (pv 0) pa_nil)) pa_nil))))) pss_nil)
    (pss_cons (ps_if (pt_cmpR op_eq (pv 2) pe_int (nomark _)) (pss_one (ps_ret (pe_tup (pa_cons pe_str (pa_cons (pe_ix ix_list (pv 1) (C8.pe_c C_law_take hr (by decide) rfl (pa_cons (pv 0) (pa_cons (pe_callB call_len_seq (by rfl) T.z_len (by decide +kernel) (pa_cons (pv 1) pa_nil)) pa_nil))) (fun _ _ => rfl)) pa_nil))))) pss_nil)
    (pss_one (ps_ret (pe_tup (pa_cons pe_str (pa_cons (C8.pe_c C_law_take hr (by decide) rfl (pa_cons (pv 0) (pa_cons pe_int pa_nil))) pa_nil)))))))), ?_⟩
  have two : ∀ x y : V, [x, y].length ≤ sizeLine := fun x y => small (by show 2 ≤ _; decide)
  refine vTake rfl P0 (by decide) (by decide) fun d H1 d0 d1 x1 => ⟨_, rfl, _, _, rfl, rfl, _, rfl, ?_⟩
  refine ite2 (fun _ => ?_) (fun _ => ?_)
  · refine ⟨_, rfl, l, c, rfl, x1.pool, fun i H2 x2 => ⟨two _ _, fun t ht => ?_⟩⟩
    exact q _ (.int i) _ ((x1.trans x2).new P0 ht) (Dt.mk2 ht (.str _) (.int _)) trivial
  · refine ⟨_, rfl, rfl, _, rfl, ite2 (fun _ => ?_) (fun _ => ?_)⟩
    · refine ⟨_, rfl, _, rfl, _, rfl, p, _, rfl, .inl (SqL.of (N.ext x1).at_), l, c, _, False, rfl, x1.pool, N.bd.1, N.bd.2, .inl (Nat.le_refl 2), fun d H2 d0 d1 x2 => ?_⟩
      refine N.pick (x1.trans x2) d0 d1 fun y hy => ⟨two _ _, fun t ht => ?_⟩
      exact q _ (.name y) _ ((x1.trans x2).new P0 ht) (Dt.mk2 ht (.str _) (.str _)) (N.wd y hy)
    · refine vTake rfl x1.pool (by decide) (by decide) fun e H2 e0 e1 x2 => ⟨two _ _, fun t ht => ?_⟩
      exact q _ (.addr e) _ ((x1.trans x2).new P0 ht) (Dt.mk2 ht (.str _) (.int _)) trivial
abbrev s_law_operand : Stmt := topS 16
theorem sc_law_operand : FnScope ["pool", "box", "kind", "word"] ["pool", "box"] (defScope s_law_operand) := ⟨rfl, rfl, rfl, by decide +kernel, rfl, by decide +kernel, by decide +kernel⟩
-- slots: 0:pool 1:box 2:kind 3:word
theorem ok_operand {f : Addr} {fd : FuncData} (F : Fun K "_law_operand" "_law_operand" s_law_operand f fd) (T : Txt K mg) (C_law_take : C8.Cal P w K mg base 2 "_law_take" (spTake 2) [])
    (C_law_atom : C8.Cal P w K mg base 4 "_law_atom" (spAtom K) []) (C_law_pick : C8.Cal P w K mg base 3 "_law_pick" spPick []) : FnOk P w K mg base CX0 5 f fd ["pool", "box"] (spOperand K) := by
  refine F.ok sc_law_operand (fun vs H Q E h => ?_) (fun cdv A outer s H vs Q E hr h => ?_)
  · obtain ⟨l, c, p, n, ws, rfl, _⟩ := h
    rfl
  obtain ⟨l, c, bx, names, sure, rfl, P0, B, q⟩ := h
  refine ⟨_, (pss_cons (ps_set (i := 2) sc_law_operand.nd rfl (Or.inl rfl) (C8.pe_c C_law_take hr (by decide) rfl (pa_cons (pv 0) (pa_cons pe_int pa_nil))))
    (pss_cons (ps_if (pt_cmpR op_eq (pv 2) pe_int (nomark _)) (pss_one (ps_ret (C8.pe_c C_law_atom hr (by decide) rfl (pa_cons (pv 0) (pa_cons (pe_dget (hu_of hr) (pv 1) pe_str (fun _ _ => rfl)) pa_nil))))) pss_nil)
    (pss_cons (ps_set (i := 3) sc_law_operand.nd rfl (Or.inl rfl) (C8.pe_c C_law_pick hr (by decide) rfl (pa_cons (pv 0) (pa_cons (pe_dget (hu_of hr) (pv 1) pe_str (fun _ _ => rfl)) pa_nil))))
    (pss_cons (ps_if (pt_cmpR op_eq (pv 2) pe_int (nomark _)) (pss_one (ps_ret (pe_tup (pa_cons pe_str (pa_cons (pv 3) (pa_cons (pe_op op_add (C8.pe_c C_law_take hr (by decide) rfl (pa_cons (pv 0) (pa_cons pe_int pa_nil))) pe_int) pa_nil)))))) pss_nil)
    (pss_cons (ps_if (PW.pt (pw_and (pt_cmpR op_eq (pv 2) pe_int (nomark _)) (pw_and1 (pt_cmpR op_eq (C8.pe_c C_law_take hr (by decide) rfl (pa_cons (pv 0) (pa_cons pe_int pa_nil))) pe_int (nomark _))))) (pss_one (ps_ret (pe_tup (pa_cons pe_str (pa_cons (pv 3) (pa_cons (pe_op op_sub (pe_un un_neg pe_int) (C8.pe_c C_law_take hr (by decide) rfl (pa_cons (pv 0) (pa_cons pe_int pa_nil)))) pa_nil)))))) pss_nil)
    (pss_one (ps_ret (pe_tup (pa_cons pe_str (pa_cons (pv 3) pa_nil)))))))))), ?_⟩
  have two : ∀ x y : V, [x, y].length ≤ sizeLine := fun x y => small (by show 2 ≤ _; decide)
  have three : ∀ x y z : V, [x, y, z].length ≤ sizeLine := fun x y z => small (by show 3 ≤ _; decide)
  refine vTake rfl P0 (by decide) (by decide) fun d H1 d0 d1 x1 => ⟨_, rfl, rfl, _, rfl, ?_⟩
  obtain ⟨⟨pn, gn, N⟩, ps, gs, S⟩ := (B.ext x1).get
  refine ite2 (fun _ => ?_) (fun _ => ?_)
  · refine ⟨_, rfl, _, rfl, bx, _, rfl, gn, l, c, pn, names, rfl, x1.pool, N, fun v a H2 x2 da wa => ?_⟩
    exact q v (.atm a) H2 (x1.trans x2) da wa fun x hx => nomatch hx
  · refine ⟨_, rfl, _, rfl, bx, _, rfl, gs, l, c, ps, sure, rfl, x1.pool, S, fun x H2 x2 hx => ?_⟩
    have x3 := x1.trans x2
    have hx' : ∀ y ∈ [x], y ∈ sure := fun y hy => by rw [List.mem_singleton.mp hy]; exact hx
    refine ⟨_, rfl, rfl, _, rfl, ite2 (fun _ => ?_) (fun _ => ?_)⟩
    · refine ⟨_, rfl, vTake rfl x3.pool (by decide) (by decide) fun e H3 e0 e1 x4 => ⟨_, _, rfl, rfl, three _ _ _, fun t ht => ?_⟩⟩
      exact q _ (.sum x (e + 1)) _ ((x3.trans x4).new P0 ht) (Dt.mk3 ht (.str _) (.str _) (.int _)) trivial hx'
    · refine ⟨_, rfl, rfl, _, rfl, ite2 (fun _ => ?_) (fun _ => ?_)⟩
      · refine vTake rfl x3.pool (by decide) (by decide) fun e H3 e0 e1 x4 => ⟨rfl, _, rfl, ite2 (fun _ => ?_) (fun _ => ?_)⟩
        · refine ⟨_, rfl, _, rfl, vTake rfl x4.pool (by decide) (by decide) fun e2 H4 e20 e21 x5 => ⟨_, _, rfl, rfl, three _ _ _, fun t ht => ?_⟩⟩
          exact q _ (.sum x (-1 - e2)) _ ((x3.trans (x4.trans x5)).new P0 ht) (Dt.mk3 ht (.str _) (.str _) (.int _)) trivial hx'
        · refine ⟨_, rfl, two _ _, fun t ht => ?_⟩
          exact q _ (.mv x) _ ((x3.trans x4).new P0 ht) (Dt.mk2 ht (.str _) (.str _)) trivial hx'
      · refine ⟨_, rfl, two _ _, fun t ht => ?_⟩
        exact q _ (.mv x) _ (x3.new P0 ht) (Dt.mk2 ht (.str _) (.str _)) trivial hx'
abbrev s_law_condition : Stmt := topS 17
theorem sc_law_condition : FnScope ["pool", "box", "kind", "first", "key"] ["pool", "box"] (defScope s_law_condition) := ⟨rfl, rfl, rfl, by decide +kernel, rfl, by decide +kernel, by decide +kernel⟩
-- slots: 0:pool 1:box 2:kind 3:first 4:key
theorem ok_cond {f : Addr} {fd : FuncData} (F : Fun K "_law_condition" "_law_condition" s_law_condition f fd) (C_law_take : C8.Cal P w K mg base 2 "_law_take" (spTake 2) [])
    (C_law_operand : C8.Cal P w K mg base 5 "_law_operand" (spOperand K) []) (C_law_pick : C8.Cal P w K mg base 3 "_law_pick" spPick []) : FnOk P w K mg base CX0 6 f fd ["pool", "box"] (spCond K) := by
  refine F.ok sc_law_condition (fun vs H Q E h => ?_) (fun cdv A outer s H vs Q E hr h => ?_)
  · obtain ⟨l, c, p, n, ws, rfl, _⟩ := h
    rfl
  obtain ⟨l, c, bx, names, sure, rfl, P0, B, q⟩ := h
  refine ⟨_, (pss_cons (ps_set (i := 2) sc_law_condition.nd rfl (Or.inl rfl) (C8.pe_c C_law_take hr (by decide) rfl (pa_cons (pv 0) (pa_cons pe_int pa_nil))))
    (pss_cons (ps_if (pt_cmpR op_lt (pv 2) pe_int (nomark _)) (pss_one (ps_ret (pe_tup (pa_cons pe_str (pa_cons (C8.pe_c C_law_pick hr (by decide) rfl (pa_cons (pv 0) (pa_cons (pe_dget (hu_of hr) (pv 1) pe_str (fun _ _ => rfl)) pa_nil))) pa_nil))))) pss_nil)
    (pss_cons (ps_if (pt_cmpR op_lt (pv 2) pe_int (nomark _)) (pss_one (ps_ret (pe_tup (pa_cons (pe_ix ix_tup (pe_tup (pa_cons pe_str (pa_cons pe_str (pa_cons pe_str pa_nil)))) (pe_op op_sub (pv 2) pe_int) (fun _ _ => rfl)) (pa_cons (C8.pe_c C_law_pick hr (by decide) rfl (pa_cons (pv 0) (pa_cons (pe_dget (hu_of hr) (pv 1) pe_str (fun _ _ => rfl)) pa_nil))) pa_nil))))) pss_nil)
    (pss_cons (ps_if (pt_cmpR op_lt (pv 2) pe_int (nomark _)) (pss_cons (ps_set (i := 3) sc_law_condition.nd rfl (Or.inl rfl) (C8.pe_c C_law_operand hr (by decide) rfl (pa_cons (pv 0) (pa_cons (pv 1) pa_nil))))
    (pss_one (ps_ret (pe_tup (pa_cons (pe_ix ix_tup (pe_tup (pa_cons pe_str (pa_cons pe_str pa_nil))) (pe_op op_sub (pv 2) pe_int) (fun _ _ => rfl)) (pa_cons (pv 3) (pa_cons (C8.pe_c C_law_operand hr (by decide) rfl (pa_cons (pv 0) (pa_cons (pv 1) pa_nil))) pa_nil))))))) pss_nil)
    (pss_cons (ps_set (i := 4) sc_law_condition.nd rfl (Or.inl rfl) (pe_tup (pa_cons pe_str (pa_cons (C8.pe_c C_law_pick hr (by decide) rfl (pa_cons (pv 0) (pa_cons (pe_dget (hu_of hr) (pv 1) pe_str (fun _ _ => rfl)) pa_nil))) pa_nil))))
    (C8.pss_cut (ps_if (pt_cmpR op_eq (C8.pe_c C_law_take hr (by decide) rfl (pa_cons (pv 0) (pa_cons pe_int pa_nil))) pe_int (nomark _)) (pss_one (ps_set (i := 4) sc_law_condition.nd rfl (Or.inl rfl) (pe_tup (pa_cons pe_str (pa_cons (C8.pe_c C_law_pick hr (by decide) rfl (pa_cons (pv 0) (pa_cons (pe_dget (hu_of hr) (pv 1) pe_str (fun _ _ => rfl)) pa_nil))) pa_nil))))) pss_nil)
    (pss_one (ps_ret (pe_tup (pa_cons pe_str (pa_cons (C8.pe_c C_law_pick hr (by decide) rfl (pa_cons (pv 0) (pa_cons (pe_dget (hu_of hr) (pv 1) pe_str (fun _ _ => rfl)) pa_nil))) (pa_cons (pv 4) pa_nil)))))))))))), ?_⟩
  have two : ∀ x y : V, [x, y].length ≤ sizeLine := fun x y => small (by show 2 ≤ _; decide)
  have three : ∀ x y z : V, [x, y, z].length ≤ sizeLine := fun x y z => small (by show 3 ≤ _; decide)
  have mem1 : ∀ {x : Str}, x ∈ sure → ∀ y ∈ [x], y ∈ sure := fun hx y hy => by rw [List.mem_singleton.mp hy]; exact hx
  refine vTake rfl P0 (by decide) (by decide) fun d H1 d0 d1 x1 => ?_
  obtain ⟨⟨pn, gn, N⟩, ps, gs, S⟩ := (B.ext x1).get
  refine ⟨_, rfl, _, _, rfl, rfl, _, rfl, ite2 (fun _ => ?_) (fun c1 => ?_)⟩
  · refine ⟨_, rfl, _, rfl, bx, _, rfl, gs, l, c, ps, sure, rfl, x1.pool, S, fun x H2 x2 hx => ⟨two _ _, fun t ht => ?_⟩⟩
    exact q _ (.kind .i x) _ ((x1.trans x2).new P0 ht) (Dt.mk2 ht (.str _) (.str _)) trivial (mem1 hx)
  have c1' : ¬ d < 3 := fun z => c1 (decide_eq_true z)
  refine ⟨_, rfl, _, _, rfl, rfl, _, rfl, ite2 (fun c2 => ?_) (fun c2 => ?_)⟩
  · have c2' : d < 6 := of_decide_eq_true c2
    refine ⟨three _ _ _, fun t0 ht0 => ⟨_, rfl, _, _, rfl, rfl, ?_⟩⟩
    have x2 := x1.new (o := .tup [.str "name", .str "address", .str "map"]) P0 ht0
    have hs : SqT K (upd H1 t0 (.tup [.str "name", .str "address", .str "map"])) t0 [.str "name", .str "address", .str "map"] := SqT.of upd_same
    obtain ⟨_, ps2, gs2, S2⟩ := (B.ext x2).get
    rcases (by omega : d = 3 ∨ d = 4 ∨ d = 5) with rfl | rfl | rfl
    · refine ⟨t0, _, _, _, rfl, rfl, hs, rfl, _, rfl, _, rfl, bx, _, rfl, gs2, l, c, ps2, sure, rfl, x2.pool, S2, fun x H2 x3 hx => ⟨two _ _, fun t ht => ?_⟩⟩
      exact q _ (.kind .n x) _ ((x2.trans x3).new P0 ht) (Dt.mk2 ht (.str _) (.str _)) trivial (mem1 hx)
    · refine ⟨t0, _, _, _, rfl, rfl, hs, rfl, _, rfl, _, rfl, bx, _, rfl, gs2, l, c, ps2, sure, rfl, x2.pool, S2, fun x H2 x3 hx => ⟨two _ _, fun t ht => ?_⟩⟩
      exact q _ (.kind .a x) _ ((x2.trans x3).new P0 ht) (Dt.mk2 ht (.str _) (.str _)) trivial (mem1 hx)
    · refine ⟨t0, _, _, _, rfl, rfl, hs, rfl, _, rfl, _, rfl, bx, _, rfl, gs2, l, c, ps2, sure, rfl, x2.pool, S2, fun x H2 x3 hx => ⟨two _ _, fun t ht => ?_⟩⟩
      exact q _ (.kind .m x) _ ((x2.trans x3).new P0 ht) (Dt.mk2 ht (.str _) (.str _)) trivial (mem1 hx)
  have c2' : ¬ d < 6 := fun z => c2 (decide_eq_true z)
  refine ⟨_, rfl, _, _, rfl, rfl, _, rfl, ite2 (fun c3 => ?_) (fun c3 => ?_)⟩
  · have c3' : d < 8 := of_decide_eq_true c3
    refine ⟨_, rfl, _, rfl, l, c, bx, names, sure, rfl, x1.pool, B.ext x1, fun v1 o1 H2 x2 d1' w1 m1 => ?_⟩
    refine ⟨two _ _, fun t0 ht0 => ⟨_, rfl, _, _, rfl, rfl, ?_⟩⟩
    have x12 := x1.trans x2
    have x3 := x12.new (o := .tup [.str "equal", .str "less"]) P0 ht0
    have hs : SqT K (upd H2 t0 (.tup [.str "equal", .str "less"])) t0 [.str "equal", .str "less"] := SqT.of upd_same
    have d1n := d1'.new (o := .tup [.str "equal", .str "less"]) ht0
    rcases (by omega : d = 6 ∨ d = 7) with rfl | rfl
    · refine ⟨t0, _, _, _, rfl, rfl, hs, rfl, _, rfl, _, rfl, _, rfl, l, c, bx, names, sure, rfl, x3.pool, B.ext x3, fun v2 o2 H3 x4 d2' w2 m2 => ⟨three _ _ _, fun t ht => ?_⟩⟩
      refine q _ (.eq o1 o2) _ ((x3.trans x4).new P0 ht) (Dt.mk3 ht (.str _) (d1n.ext x3.pool x4) d2') ⟨w1, w2⟩ fun y hy => ?_
      rcases List.mem_append.mp hy with h | h
      · exact m1 y h
      · exact m2 y h
    · refine ⟨t0, _, _, _, rfl, rfl, hs, rfl, _, rfl, _, rfl, _, rfl, l, c, bx, names, sure, rfl, x3.pool, B.ext x3, fun v2 o2 H3 x4 d2' w2 m2 => ⟨three _ _ _, fun t ht => ?_⟩⟩
      refine q _ (.less o1 o2) _ ((x3.trans x4).new P0 ht) (Dt.mk3 ht (.str _) (d1n.ext x3.pool x4) d2') ⟨w1, w2⟩ fun y hy => ?_
      rcases List.mem_append.mp hy with h | h
      · exact m1 y h
      · exact m2 y h
  · refine ⟨_, rfl, _, rfl, bx, _, rfl, gn, l, c, pn, names, rfl, x1.pool, N, fun x H2 x2 hx => ⟨two _ _, fun t ht => ?_⟩⟩
    have x3 := (x1.trans x2).new (o := .tup [.str "name", .str x]) P0 ht
    have dk0 : Dt K (upd H2 t (.tup [.str "name", .str x])) (.ref t) (Op.d (.atm (.name x))) := Dt.mk2 ht (.str _) (.str _)
    refine ⟨fun σ' H' => ∃ (v : V) (k : Op), σ' = [some (.ref l), some (.ref bx), some (.int d), none, some v] ∧ Ext l c H H' ∧ Dt K H' v k.d ∧ (∀ x ∈ k.words, x ∈ sure) ∧ ∀ w n, k ≠ .sum w n, ?_, ?_⟩
    · refine vTake rfl x3.pool (by decide) (by decide) fun e H3 e0 e1 x4 => ⟨rfl, _, rfl, ite2 (fun _ => ?_) (fun _ => ?_)⟩
      · have x5 := x3.trans x4
        obtain ⟨_, ps2, gs2, S2⟩ := (B.ext x5).get
        refine ⟨_, rfl, _, rfl, bx, _, rfl, gs2, l, c, ps2, sure, rfl, x5.pool, S2, fun y H4 x6 hy => ⟨two _ _, fun t2 ht2 => ?_⟩⟩
        exact ⟨_, .mv y, rfl, (x5.trans x6).new P0 ht2, Dt.mk2 ht2 (.str _) (.str _), mem1 hy, fun _ _ => Op.noConfusion⟩
      · exact ⟨_, .atm (.name x), rfl, x3.trans x4, dk0.ext x3.pool x4, (fun x hx => nomatch hx), fun _ _ => Op.noConfusion⟩
    · rintro σ' H' ⟨v, k, rfl, x5, dk, mk, nk⟩
      obtain ⟨_, ps2, gs2, S2⟩ := (B.ext x5).get
      refine ⟨_, rfl, _, rfl, bx, _, rfl, gs2, l, c, ps2, sure, rfl, x5.pool, S2, fun y H4 x6 hy => ⟨_, rfl, three _ _ _, fun t2 ht2 => ?_⟩⟩
      exact q _ (.has y k) _ ((x5.trans x6).new P0 ht2) (Dt.mk3 ht2 (.str _) (.str _) (dk.ext x5.pool x6)) trivial ⟨hy, mk, nk⟩
abbrev s_law_worth_of : Stmt := topS 21
theorem sc_law_worth_of : FnScope ["pool", "names", "kind", "name"] ["pool", "names"] (defScope s_law_worth_of) := ⟨rfl, rfl, rfl, by decide +kernel, rfl, by decide +kernel, by decide +kernel⟩
-- slots: 0:pool(cell) 1:names(cell) 2:kind 3:name(comp)
theorem ok_worth {f : Addr} {fd : FuncData} (F : Fun K "_law_worth_of" "_law_worth_of" s_law_worth_of f fd) (T : Txt K mg) (C_law_take : C8.Cal P w K mg base 2 "_law_take" (spTake 2) [])
    (C_law_atom : C8.Cal P w K mg base 4 "_law_atom" (spAtom K) []) : FnOk P w K mg base CX0 5 f fd ["pool", "names"] (spWorth K) := by
  refine F.ok sc_law_worth_of (fun vs H Q E h => ?_) (fun cdv A outer s H vs Q E hr h => ?_)
  · obtain ⟨l, c, p, ws, rfl, _⟩ := h
    rfl
  obtain ⟨l, c, pn, names, rfl, P0, N, q⟩ := h
  refine ⟨_, (pss_cons (ps_set (i := 2) sc_law_worth_of.nd rfl (Or.inl rfl) (C8.pe_c C_law_take hr (by decide) rfl (pa_cons (pv 0) (pa_cons pe_int pa_nil))))
    (pss_cons (ps_if (pt_cmpR op_lt (pv 2) pe_int (nomark _)) (pss_one (ps_ret (C8.pe_c C_law_atom hr (by decide) rfl (pa_cons (pv 0) (pa_cons (pv 1) pa_nil))))) pss_nil)
    (pss_cons (ps_if (pt_cmpR op_lt (pv 2) pe_int (nomark _)) (pss_one (ps_ret (pe_tup (pa_cons pe_str (pa_cons (pe_callTy call_tuple_of (by rfl) T.z_tuple (by decide +kernel) (pa_cons (pe_lc (own := [("name", 3)]) (g := (gName 3)) (by rfl) sc_law_worth_of.nd (pi_list (pe_callB cr_sortedS (by rfl) T.z_sorted (by decide +kernel) (pa_cons (pv 1) pa_nil))) (blkOk_by (N := ["pool", "names", "kind", "name"]) (sc := defScope s_law_worth_of) (by decide +kernel)) (fun _ _ _ _ _ => (pg_name (i := 3) sc_law_worth_of.nd rfl (Or.inl rfl))) (fun _ _ _ _ _ => pts_one (pt_cmpR op_eq (C8.pe_c C_law_take hr (by decide) rfl (pa_cons (pv 0) (pa_cons pe_int pa_nil))) pe_int (nomark _))) (fun _ _ _ _ _ => (pe_tup (pa_cons (pv 3) (pa_cons (C8.pe_c C_law_atom hr (by decide) rfl (pa_cons (pv 0) (pa_cons (pv 1) pa_nil))) pa_nil))))) pa_nil)) pa_nil))))) pss_nil)
    (pss_one (ps_ret (pe_tup (pa_cons pe_str (pa_cons pe_str (pa_cons (pe_tup (pa_cons (C8.pe_c C_law_atom hr (by decide) rfl (pa_cons (pv 0) (pa_cons (pv 1) pa_nil))) pa_nil)) pa_nil))))))))), ?_⟩
  have two : ∀ x y : V, [x, y].length ≤ sizeLine := fun x y => small (by show 2 ≤ _; decide)
  refine vTake rfl P0 (by decide) (by decide) fun d H1 d0 d1 x1 => ?_
  refine ⟨_, rfl, _, _, rfl, rfl, _, rfl, ite2 (fun _ => ?_) (fun _ => ?_)⟩
  · refine ⟨_, rfl, _, rfl, l, c, pn, names, rfl, x1.pool, N.ext x1, fun v a H2 x2 da wa => ?_⟩
    exact q v (.atm a) H2 (x1.trans x2) da wa
  refine ⟨_, rfl, _, _, rfl, rfl, _, rfl, ite2 (fun _ => ?_) (fun _ => ?_)⟩
  · refine ⟨_, rfl, pn, names, rfl, SqL.of (N.ext x1).at_, by have := N.le; omega, fun ys sp hperm _ hsp => ?_⟩
    have x2 := x1.new (o := .lst (ys.map V.str)) P0 hsp
    have hsp0 : H sp = none := x1.free P0 hsp
    have P2 := x2.pool
    have hly : ys.length ≤ 25 := by rw [hperm.length_eq]; exact N.le
    refine ⟨sp, rfl, ⟨_, SqL.of upd_same⟩, fun D hD => lc_list (K := K) (a := sp) (xs := ys.map V.str) (fun i H' => i ≤ ys.length ∧ ∃ (vs : List V) (es : List (Str × At)), Ext l c (upd H1 sp (.lst (ys.map V.str))) H' ∧ H' D = some (.lst vs) ∧ DtAll K H' vs (es.map ent) ∧ es.length ≤ i ∧ ∀ e ∈ es, Wd e.1 ∧ e.2.W) ?_ ?_ ?_ ?_⟩
    · exact ⟨Nat.zero_le _, [], [], (Ext.refl P2).upd P2 hD, upd_same, .nil, Nat.le_refl _, fun _ h => nomatch h⟩
    · rintro i H' _ ⟨_, vs, es, x, _⟩
      exact SqL.of (x.keep _ _ (P0.ne hsp0).1 upd_same)
    · rintro i y H' hi ⟨_, vs, es, x, hd, da, hl, hw⟩
      have hi2 : i < ys.length := by
        have := (List.getElem?_eq_some_iff.mp hi).1
        rw [List.length_map] at this
        exact this
      rw [List.getElem?_map, List.getElem?_eq_getElem hi2] at hi
      cases hi
      have hyn : ys[i] ∈ names := hperm.mem_iff.mp (List.getElem_mem hi2)
      have nD : D ≠ l := (P2.ne hD).1
      refine ⟨rfl, vTake rfl x.pool (by decide) (by decide) fun e H3 e0 e1 x3 => ⟨rfl, _, rfl, ite2 (fun _ => ?_) (fun _ => ?_)⟩⟩
      · have x4 := x.trans x3
        refine ⟨_, rfl, _, rfl, _, rfl, l, c, pn, names, rfl, x4.pool, (N.ext x2).ext x4, fun v a H4 x5 dv wa => ⟨two _ _, fun t ht => ?_⟩⟩
        have x6 := (x4.trans x5).new (o := .tup [.str ys[i], v]) P2 ht
        have hdt : (upd H4 t (.tup [.str ys[i], v])) D = some (.lst vs) := by
          have := (x3.trans x5).keep _ _ nD hd
          rw [upd_ne (ne_of_none this ht)]
          exact this
        have da2 : DtAll K (upd H4 t (.tup [.str ys[i], v])) vs (es.map ent) := DtAll.mono (fun _ _ z => Same.seqT (same_new ht) ((x3.trans x5).seqT x.pool z)) _ _ da
        have dt2 : Dt K (upd H4 t (.tup [.str ys[i], v])) (.ref t) (ent (ys[i], a)) := Dt.mk2 ht (.str _) dv
        refine ⟨vs, hdt, ?_, hi2, vs ++ [.ref t], es ++ [(ys[i], a)], x6.upd P2 hD, upd_same, ?_, by rw [List.length_append]; show _ + 1 ≤ _; omega, fun z hz => ?_⟩
        · have := da.length
          rw [List.length_map] at this
          exact smallL (by omega)
        · rw [List.map_append]
          refine DtAll.mono (fun _ _ z => ?_) _ _ (DtAll.append da2 (.cons dt2 .nil))
          exact seqT_upd z hdt
        · rcases List.mem_append.mp hz with h | h
          · exact hw z h
          · rw [List.mem_singleton.mp h]; exact ⟨N.wd _ hyn, wa⟩
      · exact ⟨hi2, vs, es, x.trans x3, x3.keep _ _ nD hd, DtAll.mono (fun _ _ z => x3.seqT x.pool z) _ _ da, by omega, hw⟩
    · rintro H' ⟨_, vs, es, x, hd, da, hl, hw⟩
      rw [List.length_map] at hl
      refine ⟨D, vs, rfl, .inl ⟨SqL.of hd, fun t ht => ⟨two _ _, fun t2 ht2 => ?_⟩⟩⟩
      have x3 := (((x2.trans x).new (o := .tup vs) P0 ht)).new (o := .tup [.str "map", .ref t]) P0 ht2
      have da2 : DtAll K (upd H' t (.tup vs)) vs (es.map ent) := DtAll.mono (fun _ _ z => Same.seqT (same_new ht) z) _ _ da
      exact q _ (.map es) _ x3 (Dt.mk2 ht2 (.str _) (.tup (SqT.of upd_same) da2)) ⟨by omega, hw⟩
  · refine ⟨_, rfl, _, rfl, l, c, pn, names, rfl, x1.pool, N.ext x1, fun v a H2 x2 da wa => ⟨small (by show 1 ≤ _; decide), fun t ht => ⟨small (by show 3 ≤ _; decide), fun t2 ht2 => ?_⟩⟩⟩
    exact q _ (.node a) _ (((x1.trans x2).new (o := .tup [v]) P0 ht).new P0 ht2) (Dt.mk3 ht2 (.str _) (.str _) (Dt.mk1 ht da)) wa
end
end PK
namespace PK
open PySem L2
def NOTH : PyData := .tuple [.str "nothing"]
def spStands (K : PySem.W.Frag) : Sp := fun vs H Q _ => ∃ (o : V) (fd : Addr) (op : Op) (sure : List Str) (tm : Str → Tm), vs = [o, .ref fd] ∧ Dt K H o op.d ∧ Fnd K H fd sure tm ∧ (∀ x ∈ op.words, x ∈ sure) ∧
  ∀ (v : V) (H' : Hp), Same H H' → (∀ t, op.val tm = some t → Dt K H' v t.d) → (op.val tm = none → Dt K H' v NOTH) → Q v H'
section
variable {P : Program} {w : World} {K : PySem.W.Frag} {mg : Str → Option Value} {base : Heap}
abbrev s_law_stands : Stmt := topS 18
theorem sc_law_stands : FnScope ["operand", "found", "term"] ["operand", "found"] (defScope s_law_stands) := ⟨rfl, rfl, rfl, by decide +kernel, rfl, by decide +kernel, by decide +kernel⟩
-- slots: 0:operand 1:found 2:term
theorem ok_stands {f : Addr} {fd : FuncData} (F : Fun K "_law_stands" "_law_stands" s_law_stands f fd) :
    FnOk P w K mg base CX0 1 f fd ["operand", "found"] (spStands K) := by
  refine F.ok sc_law_stands (fun vs H Q E h => ?_) (fun cdv A outer s H vs Q E hr h => ?_)
  · obtain ⟨o, b, op, su, tm, rfl, _⟩ := h
    rfl
  obtain ⟨o, b, op, su, tm, rfl, ho, hf, hw, q⟩ := h
  refine ⟨_, (pss_cons (ps_if (pt_cmpR op_eq (pe_ix ix_tup (pv 0) pe_int (fun _ _ => rfl)) pe_str (nomark _)) (pss_one (ps_ret (pe_dget (hu_of hr) (pv 1) (pe_ix ix_tup (pv 0) pe_int (fun _ _ => rfl)) (fun _ _ => rfl)))) pss_nil)
    (pss_cons (ps_if (pt_cmpR op_eq (pe_ix ix_tup (pv 0) pe_int (fun _ _ => rfl)) pe_str (nomark _)) (pss_cons (ps_set (i := 2) sc_law_stands.nd rfl (Or.inl rfl) (pe_dget (hu_of hr) (pv 1) (pe_ix ix_tup (pv 0) pe_int (fun _ _ => rfl)) (fun _ _ => rfl)))
    (pss_cons (ps_if (pt_cmpR op_eq (pe_ix ix_tup (pv 2) pe_int (fun _ _ => rfl)) pe_str (nomark _)) (pss_one (ps_ret (pe_tup (pa_cons pe_str (pa_cons (pe_op op_add (pe_ix ix_tup (pv 2) pe_int (fun _ _ => rfl)) (pe_ix ix_tup (pv 0) pe_int (fun _ _ => rfl))) pa_nil))))) pss_nil)
    (pss_one (ps_ret (pe_tup (pa_cons pe_str pa_nil)))))) pss_nil)
    (pss_one (ps_ret (pv 0))))), ?_⟩
  cases op with
  | atm a =>
    obtain ⟨p, x, y, rfl, hs, h1, h2⟩ := Dt.t2 ho
    obtain rfl := h1.s
    refine vTx rfl hs rfl ⟨rfl, _, rfl, sF a.hd_meta (vTx rfl hs rfl ⟨rfl, _, rfl, sF a.hd_sum ⟨_, rfl, ?_⟩⟩)⟩
    exact q _ _ (Same.refl _) (fun t e => by cases e; exact ho) (fun e => nomatch e)
  | mv x =>
    obtain ⟨p, x1, y, rfl, hs, h1, h2⟩ := Dt.t2 ho
    obtain rfl := h1.s
    obtain rfl := h2.s
    obtain ⟨v, g, dv, _⟩ := hf.get (hw x (List.mem_singleton.mpr rfl))
    refine vTx rfl hs rfl ⟨rfl, _, rfl, sT rfl ⟨_, rfl, vTx rfl hs rfl ⟨b, v, rfl, g, ?_⟩⟩⟩
    exact q _ _ (Same.refl _) (fun t e => by cases e; exact dv) (fun e => nomatch e)
  | sum x n =>
    obtain ⟨p, x1, y, z, rfl, hs, h1, h2, h3⟩ := Dt.t3 ho
    obtain rfl := h1.s
    obtain rfl := h2.s
    obtain rfl := h3.i
    obtain ⟨v, g, dv, _⟩ := hf.get (hw x (List.mem_singleton.mpr rfl))
    refine vTx rfl hs rfl ⟨rfl, _, rfl, sF (by decide +kernel) (vTx rfl hs rfl ⟨rfl, _, rfl, sT rfl ?_⟩)⟩
    refine ⟨_, rfl, vTx rfl hs rfl ⟨b, v, rfl, g, ?_⟩⟩
    by_cases hi : ∃ i, tm x = .atm (.int i)
    · obtain ⟨i, ei⟩ := hi
      rw [ei] at dv
      obtain ⟨p2, x2, y2, rfl, hs2, k1, k2⟩ := Dt.t2 dv
      obtain rfl := k1.s
      obtain rfl := k2.i
      refine vTx rfl hs2 rfl ⟨rfl, _, rfl, sT rfl ?_⟩
      refine vTx rfl hs2 rfl (vTx rfl hs rfl ⟨_, _, rfl, rfl, small (by show 2 ≤ _; decide), fun np hnp => ?_⟩)
      refine q _ _ (same_new hnp) (fun t e => ?_) (fun e => ?_)
      · have e2 : Op.val tm (.sum x n) = some (.atm (.int (i + n))) := sum_int ei
        rw [e2] at e
        cases e
        exact Dt.mk2 hnp (.str _) (.int _)
      · have e2 : Op.val tm (.sum x n) = some (.atm (.int (i + n))) := sum_int ei
        rw [e2] at e; cases e
    · have en : Op.val tm (.sum x n) = none := sum_none hi
      have eh : (tm x).hd ≠ "int" := fun h => hi (hd_int h)
      obtain ⟨p2, xs2, rfl, hs2, k1⟩ := Tm.tup dv
      refine vTx rfl hs2 k1 ⟨rfl, _, rfl, sF eh ⟨small (by show 1 ≤ _; decide), fun np hnp => ?_⟩⟩
      exact q _ _ (same_new hnp) (fun t e => by rw [en] at e; cases e) (fun _ => Dt.mk1 hnp (.str _))
/-! _law_words_due -/
inductive Pt where
  | s (x : Str) | o (op : Op)
def Pt.d : Pt → PyData
  | .s x => .str x | .o op => op.d
def Pt.ws : Pt → List Str
  | .s x => [x] | .o op => op.words
def ptW (ps : List Pt) : List Str := (ps.map Pt.ws).flatten
theorem ptW_len : ∀ ps : List Pt, (ptW ps).length ≤ ps.length
  | [] => Nat.le_refl _
  | p :: r => by
    have ih := ptW_len r
    show (p.ws ++ ptW r).length ≤ _
    rw [List.length_append, List.length_cons]
    have : p.ws.length ≤ 1 := by
      cases p with
      | s x => exact Nat.le_refl _
      | o op => exact op.wlen
    omega
theorem ptW_take {ps : List Pt} {i : Nat} (hi : i < ps.length) : ptW (ps.take (i + 1)) = ptW (ps.take i) ++ ps[i].ws := by
  unfold ptW
  rw [List.take_add_one, List.getElem?_eq_getElem hi, List.map_append, List.flatten_append]
  simp
/-- isinstance(x, T) of a name and a built-in class -/
theorem vIsi {σ : L2.St} {H : Hp} {Q : VK} {i : Nat} {v : V} {U Tn : String} {b : Bool} (h : σ[i]? = some (some v)) (ty : TyX K H v (.type U)) (kb : kitB U Tn = some b) (q : Q (.bl b) H) :
    tCB (rIsi K) (tCons (tVar i) (tCons (tC (.ty Tn)) tNil)) σ H Q := ⟨_, h, v, .ty Tn, _, _, b, rfl, .ty Tn, ty, kit_ty kb, q⟩
theorem ty_tup {H : Hp} {a : Addr} {xs : List V} (h : SqT K H a xs) : TyX K H (.ref a) (.type "tuple") := by
  rcases h with (h | ⟨o, h⟩) | ⟨o, its, n, h, hc, _⟩
  · exact .base (.tup h)
  · exact .fTuple h
  · exact .kTuple h hc
theorem ty_lst {H : Hp} {a : Addr} {xs : List V} (h : SqL K H a xs) : TyX K H (.ref a) (.type "list") := by
  rcases h with (h | ⟨o, h⟩) | ⟨o, its, n, h, hc, _⟩
  · exact .base (.lst h)
  · exact .base (.frz h)
  · exact .kList h hc
def spWdue (K : PySem.W.Frag) (n : Nat) : Sp := fun vs H Q _ => ∃ (v : V) (cn : Cn) (sure : List Str), vs = [v] ∧ Dt K H v cn.d ∧ cn.Ok sure ∧ (3 ≤ n ∨ (2 ≤ n ∧ ∃ c, cn = .pl c)) ∧
  ∀ (H' : Hp) (p : Addr), Same H H' → H p = none → H' p = some (.lst (cn.words.map V.str)) → Q (.ref p) H'
/-- the parts of a plain condition behind its head -/
def Cd.parts : Cd → List Pt
  | .kind _ x => [.s x]
  | .eq a b => [.o a, .o b]
  | .less a b => [.o a, .o b]
  | .has x k => [.s x, .o k]
theorem Cd.parts_w (c : Cd) : ptW c.parts = c.words := by
  cases c with
  | kind k x => rfl
  | eq a b => show a.words ++ (b.words ++ []) = _; rw [List.append_nil]; rfl
  | less a b => show a.words ++ (b.words ++ []) = _; rw [List.append_nil]; rfl
  | has x k => show [x] ++ (k.words ++ []) = _; rw [List.append_nil]; rfl
def Cd.head : Cd → Str
  | .kind k _ => k.s
  | .eq _ _ => "equal" | .less _ _ => "less" | .has _ _ => "has"
theorem Cd.head_not (c : Cd) : c.head ≠ "not" := by
  cases c with
  | kind k x => exact k.not
  | eq a b => show ("equal" : Str) ≠ "not"; decide +kernel
  | less a b => show ("less" : Str) ≠ "not"; decide +kernel
  | has x k => show ("has" : Str) ≠ "not"; decide +kernel
theorem Cd.d_eq (c : Cd) : c.d = .tuple (.str c.head :: c.parts.map Pt.d) := by cases c <;> rfl
theorem Cd.parts_len (c : Cd) : 1 ≤ c.parts.length ∧ c.parts.length ≤ 2 := by
  cases c
  · show 1 ≤ 1 ∧ 1 ≤ 2; decide
  · show 1 ≤ 2 ∧ 2 ≤ 2; decide
  · show 1 ≤ 2 ∧ 2 ≤ 2; decide
  · show 1 ≤ 2 ∧ 2 ≤ 2; decide
theorem cut_one (x : V) (r : List V) : cutV (x :: r) (some 1) none = r := by
  unfold cutV
  rw [show HT.sIx (x :: r).length 0 (some 1) = min 1 (x :: r).length from HT.sIx_nat (x :: r).length 0 1, HT.sIx_none, List.length_cons]
  rw [show min 1 (r.length + 1) = 1 by omega]
  show List.take (r.length + 1 - 1) r = r
  rw [Nat.add_sub_cancel]
  exact List.take_length
abbrev s_law_words_due : Stmt := topS 22
theorem sc_law_words_due : FnScope ["condition", "found", "part"] ["condition"] (defScope s_law_words_due) := ⟨rfl, rfl, rfl, by decide +kernel, rfl, by decide +kernel, by decide +kernel⟩
-- slots: 0:condition 1:found 2:part
theorem ok_wdue {n : Nat} {f : Addr} {fd : FuncData} (hn : 1 ≤ n) (F : Fun K "_law_words_due" "_law_words_due" s_law_words_due f fd) (T : Txt K mg) (C_law_words_due : C8.Cal P w K mg base n "_law_words_due" (spWdue K n) []) :
    FnOk P w K mg base CX0 (n + 1) f fd ["condition"] (spWdue K (n + 1)) := by
  refine F.ok sc_law_words_due (fun vs H Q E h => ?_) (fun cdv A outer s H vs Q E hr h => ?_)
  · obtain ⟨v, cn, su, rfl, _⟩ := h
    rfl
  obtain ⟨v, cn, su, rfl, hv, hok, hlev, q⟩ := h
  refine ⟨_, (pss_cons (ps_if (pt_cmpR op_eq (pe_ix ix_tup (pv 0) pe_int (fun _ _ => rfl)) pe_str (nomark _)) (pss_one (ps_ret (C8.pe_c C_law_words_due hr (by omega) rfl (pa_cons (pe_ix ix_tup (pv 0) pe_int (fun _ _ => rfl)) pa_nil)))) pss_nil)
    (pss_cons (ps_set (i := 1) sc_law_words_due.nd rfl (Or.inl rfl) (pe_lst pa_nil))
    (pss_cons (ps_for PassesOwn.never rfl (pi_tup (pe_slice sl_tup (pv 0) (po_some pe_int) po_none)) (pg_name (i := 2) sc_law_words_due.nd rfl (Or.inl rfl)) (pss_one (ps_if (pt_val (pe_callB call_isi (by rfl) T.z_isinstance (by decide +kernel) (pa_cons (pv 2) (pa_cons (pe_bltn (v := .ty "str") (by rfl) T.z_str (by decide +kernel) rfl) pa_nil)))) (pss_one (ps_expr (pe_bm PySem.F.plainAttrs_list PySem.F.slot_list_append PySem.F.type_list_append mt_append (pv 1) (pa_cons (pv 2) pa_nil)))) (pss_one (ps_if (pt_cmpR op_in_seq (pe_ix ix_tup (pv 2) pe_int (fun _ _ => rfl)) (pe_tup (pa_cons pe_str (pa_cons pe_str pa_nil))) rfl) (pss_one (ps_expr (pe_bm PySem.F.plainAttrs_list PySem.F.slot_list_append PySem.F.type_list_append mt_append (pv 1) (pa_cons (pe_ix ix_tup (pv 2) pe_int (fun _ _ => rfl)) pa_nil)))) pss_nil)))))
    (pss_one (ps_ret (pv 1)))))), ?_⟩
  cases cn with
  | no c =>
    obtain ⟨p, x, y, rfl, hs, h1, h2⟩ := Dt.t2 hv
    obtain rfl := h1.s
    refine vTx rfl hs rfl ⟨rfl, _, rfl, sT rfl (vTx rfl hs rfl ⟨y, .pl c, su, rfl, h2, hok, ?_, fun H' p' sm hn' hl => q H' p' sm hn' hl⟩)⟩
    rcases hlev with h | ⟨_, c', h⟩
    · exact .inr ⟨by omega, c, rfl⟩
    · cases h
  | pl c =>
    have hv' : Dt K H v (.tuple (.str c.head :: c.parts.map Pt.d)) := by rw [← Cd.d_eq]; exact hv
    obtain ⟨p, xs, rfl, hs, da⟩ := Dt.tn hv'
    cases da with
    | cons h1 dr =>
    rename_i x0 xr
    obtain rfl := h1.s
    have lr : xr.length = c.parts.length := by rw [dr.length, List.length_map]
    refine vTx rfl hs (atI_nat (j := 0) rfl) ⟨rfl, _, rfl, sF c.head_not ⟨Nat.zero_le _, fun wd hwd => ?_⟩⟩
    have s1 := same_new (o := .lst []) hwd
    have pl := c.parts_len
    refine ⟨_, rfl, 1, rfl, p, _, rfl, Same.seqT s1 hs, ?_, fun tp htp => ?_⟩
    · rintro ⟨h0, _⟩
      rw [show HT.sIx (V.str c.head :: xr).length 0 (some 1) = min 1 (V.str c.head :: xr).length from HT.sIx_nat (V.str c.head :: xr).length 0 1, List.length_cons] at h0
      omega
    rw [cut_one]
    have s2 : Same H (upd (upd H wd (.lst [])) tp (.tup xr)) := Same.upd s1 (s1.free htp)
    have ntw : wd ≠ tp := fun e => by rw [← e, upd_same] at htp; cases htp
    refine ⟨tp, rfl, ⟨_, SqT.of upd_same⟩, for_tup (K := K) (a := tp) (xs := xr) (fun i σ H' => i ≤ xr.length ∧ ∃ pv : Option V, σ = [some (.ref p), some (.ref wd), pv] ∧ Same H H' ∧ H' tp = some (.tup xr) ∧ H' wd = some (.lst ((ptW (c.parts.take i)).map V.str))) ?_ ?_ ?_ ?_⟩
    · exact ⟨Nat.zero_le _, none, rfl, s2, upd_same, by rw [upd_ne ntw, upd_same]; rfl⟩
    · rintro i σ H' _ ⟨_, pv, rfl, sm, ht, hd⟩
      exact SqT.of ht
    · rintro i x σ H' hi ⟨_, pv, rfl, sm, ht, hd⟩
      have hi2 : i < xr.length := (List.getElem?_eq_some_iff.mp hi).1
      have hi3 : i < c.parts.length := by omega
      obtain ⟨d, hd1, hx⟩ := dr.get hi
      rw [List.getElem?_map, List.getElem?_eq_getElem hi3] at hd1
      have hd2 : (c.parts[i]).d = d := Option.some.inj hd1
      subst hd2
      have hx' := hx.same sm
      have lenok : ((ptW (c.parts.take i)).map V.str).length < sizeLine := by
        rw [List.length_map]
        have := ptW_len (c.parts.take i)
        rw [List.length_take] at this
        exact smallL (by omega)
      have nw : ∀ {o : HO}, upd H' wd o tp = H' tp := upd_ne ntw.symm
      cases ep : c.parts[i] with
      | s y =>
        rw [ep] at hx'
        obtain rfl := hx'.s
        refine vIsi rfl (.base (.str y)) (by decide +kernel) ⟨_, rfl, iteT ?_⟩
        refine ⟨_, rfl, .inl ⟨rfl, _, SqL.of hd⟩, _, rfl, wd, _, _, rfl, rfl, hd, lenok, hi2, _, rfl, Same.upd sm hwd, nw.trans ht, ?_⟩
        rw [upd_same, ptW_take hi3, ep, List.map_append]
        rfl
      | o op =>
        rw [ep] at hx'
        have two : ([V.str "meta", V.str "sum"] : List V).length ≤ sizeLine := small (by decide)
        have fin : ∀ (H2 : Hp) (t : Addr), H' t = none → H2 = upd H' t (.tup [.str "meta", .str "sum"]) → Same H H2 ∧ H2 tp = some (.tup xr) ∧ H2 wd = some (.lst ((ptW (c.parts.take i)).map V.str)) := fun H2 t h0 e => by
          subst e
          exact ⟨Same.upd sm (sm.free h0), by rw [upd_ne (ne_of_none ht h0)]; exact ht, by rw [upd_ne (ne_of_none hd h0)]; exact hd⟩
        cases op with
        | atm a =>
          obtain ⟨p1, x1, y1, rfl, hs1, k1, k2⟩ := Dt.t2 hx'
          obtain rfl := k1.s
          refine vIsi rfl (ty_tup hs1) (by decide +kernel) ⟨_, rfl, iteF ?_⟩
          refine vTx rfl hs1 rfl ⟨two, fun t ht0 => ⟨t, _, rfl, .inr (SqT.of upd_same), rfl, rfl, _, rfl, ?_⟩⟩
          have e : (if false = true then !inV (V.str a.hd) [V.str "meta", V.str "sum"] else inV (V.str a.hd) [V.str "meta", V.str "sum"]) = false := by
            rw [if_neg Bool.false_ne_true, show ([V.str "meta", V.str "sum"] : List V) = (["meta", "sum"] : List Str).map V.str from rfl, inV_str a.hd ["meta", "sum"]]
            exact decide_eq_false fun m => by
              rcases List.mem_cons.mp m with h | h
              · exact a.hd_meta h
              · exact a.hd_sum (List.mem_singleton.mp h)
          rw [e]
          obtain ⟨f1, f2, f3⟩ := fin _ t ht0 rfl
          refine iteF ⟨hi2, _, rfl, f1, f2, ?_⟩
          rw [f3, ptW_take hi3, ep]
          show _ = some (HO.lst ((ptW (c.parts.take i) ++ []).map V.str))
          rw [List.append_nil]
        | mv z =>
          obtain ⟨p1, x1, y1, rfl, hs1, k1, k2⟩ := Dt.t2 hx'
          obtain rfl := k1.s
          obtain rfl := k2.s
          refine vIsi rfl (ty_tup hs1) (by decide +kernel) ⟨_, rfl, iteF ?_⟩
          refine vTx rfl hs1 rfl ⟨two, fun t ht0 => ⟨t, _, rfl, .inr (SqT.of upd_same), rfl, rfl, _, rfl, ?_⟩⟩
          have e : (if false = true then !inV (V.str "meta") [V.str "meta", V.str "sum"] else inV (V.str "meta") [V.str "meta", V.str "sum"]) = true := by decide +kernel
          rw [e]
          obtain ⟨f1, f2, f3⟩ := fin _ t ht0 rfl
          refine iteT ⟨_, rfl, .inl ⟨rfl, _, SqL.of f3⟩, vTx rfl (Same.seqT (same_new ht0) hs1) rfl ⟨wd, _, _, rfl, rfl, f3, lenok, hi2, _, rfl, Same.upd f1 hwd, (upd_ne ntw.symm).trans f2, ?_⟩⟩
          rw [upd_same, ptW_take hi3, ep, List.map_append]
          rfl
        | sum z m =>
          obtain ⟨p1, x1, y1, z1, rfl, hs1, k1, k2, k3⟩ := Dt.t3 hx'
          obtain rfl := k1.s
          obtain rfl := k2.s
          refine vIsi rfl (ty_tup hs1) (by decide +kernel) ⟨_, rfl, iteF ?_⟩
          refine vTx rfl hs1 rfl ⟨two, fun t ht0 => ⟨t, _, rfl, .inr (SqT.of upd_same), rfl, rfl, _, rfl, ?_⟩⟩
          have e : (if false = true then !inV (V.str "sum") [V.str "meta", V.str "sum"] else inV (V.str "sum") [V.str "meta", V.str "sum"]) = true := by decide +kernel
          rw [e]
          obtain ⟨f1, f2, f3⟩ := fin _ t ht0 rfl
          refine iteT ⟨_, rfl, .inl ⟨rfl, _, SqL.of f3⟩, vTx rfl (Same.seqT (same_new ht0) hs1) rfl ⟨wd, _, _, rfl, rfl, f3, lenok, hi2, _, rfl, Same.upd f1 hwd, (upd_ne ntw.symm).trans f2, ?_⟩⟩
          rw [upd_same, ptW_take hi3, ep, List.map_append]
          rfl
    · rintro σ H' ⟨_, pv, rfl, sm, ht, hd⟩
      rw [List.take_of_length_le (by omega), Cd.parts_w] at hd
      exact ⟨_, rfl, q H' wd sm hwd hd⟩
end
end PK
namespace PK
open PySem L2
/-! _law_same -/
section
variable {K : PySem.W.Frag} {H H' : Hp}
mutual
theorem Dp.mono (hT : ∀ a xs, SqT K H a xs → SqT K H' a xs) (hL : ∀ a xs, SqL K H a xs → SqL K H' a xs) : ∀ (d : PyData) (v : V), Dp K H v d → Dp K H' v d
  | .none, _, h => by cases h; exact .non
  | .bool _, _, h => by cases h; exact .bl _
  | .int _, _, h => by cases h; exact .int _
  | .str _, _, h => by cases h; exact .str _
  | .dict _, _, h => by cases h
  | .list ds, _, h => by
    cases h with
    | lst s a => exact .lst (hL _ _ s) (DpAll.mono hT hL ds _ a)
  | .tuple ds, _, h => by
    cases h with
    | tup s a => exact .tup (hT _ _ s) (DpAll.mono hT hL ds _ a)
theorem DpAll.mono (hT : ∀ a xs, SqT K H a xs → SqT K H' a xs) (hL : ∀ a xs, SqL K H a xs → SqL K H' a xs) : ∀ (ds : List PyData) (vs : List V), DpAll K H vs ds → DpAll K H' vs ds
  | [], _, h => by cases h; exact .nil
  | d :: ds, _, h => by
    cases h with
    | cons h1 h2 => exact .cons (Dp.mono hT hL d _ h1) (DpAll.mono hT hL ds _ h2)
end
theorem Dp.same {d : PyData} {v : V} (h : Dp K H v d) (e : Same H H') : Dp K H' v d := Dp.mono (fun _ _ q => Same.seqT e q) (fun _ _ q => e.seq q) d v h
theorem DpAll.length : ∀ {xs : List V} {ds : List PyData}, DpAll K H xs ds → xs.length = ds.length
  | _, _, .nil => rfl
  | _, _, .cons _ t => by rw [List.length_cons, List.length_cons, DpAll.length t]
theorem DpAll.get : ∀ {xs : List V} {ds : List PyData} {i : Nat} {d : PyData}, DpAll K H xs ds → ds[i]? = some d → ∃ x, xs[i]? = some x ∧ Dp K H x d
  | _, _, _, _, .nil, e => by simp at e
  | _, _, 0, _, .cons h _, e => by simp at e; subst e; exact ⟨_, rfl, h⟩
  | _, _, i + 1, _, .cons _ t, e => by
    obtain ⟨d, h1, h2⟩ := DpAll.get (i := i) t (by simpa using e)
    exact ⟨d, by simpa using h1, h2⟩
end
theorem depth_get : ∀ {ds : List PyData} {i : Nat} {d : PyData}, ds[i]? = some d → d.depth ≤ PyData.depthAll ds
  | [], _, _, e => by simp at e
  | x :: r, 0, d, e => by
    simp at e; subst e
    show _ ≤ max _ _
    exact Nat.le_max_left _ _
  | x :: r, i + 1, d, e => by
    have ih := depth_get (ds := r) (i := i) (d := d) (by simpa using e)
    show _ ≤ max _ _
    exact Nat.le_trans ih (Nat.le_max_right _ _)
mutual
/-- no list in it is long -/
def slim : PyData → Bool
  | .none | .bool _ | .int _ | .str _ => true
  | .list xs | .tuple xs => decide (xs.length ≤ 1000) && slimAll xs
  | .dict _ => false
def slimAll : List PyData → Bool
  | [] => true
  | x :: xs => slim x && slimAll xs
end
theorem slim_get : ∀ {ds : List PyData} {i : Nat} {d : PyData}, slimAll ds = true → ds[i]? = some d → slim d = true
  | [], _, _, _, e => by simp at e
  | x :: r, 0, d, h, e => by
    simp at e; subst e
    unfold slimAll at h
    exact (Bool.and_eq_true_iff.mp h).1
  | x :: r, i + 1, d, h, e => by
    unfold slimAll at h
    exact slim_get (ds := r) (i := i) (Bool.and_eq_true_iff.mp h).2 (by simpa using e)
theorem slim_seq {ds : List PyData} (h : slim (.tuple ds) = true) : ds.length ≤ 1000 ∧ slimAll ds = true := by
  unfold slim at h
  exact ⟨of_decide_eq_true (Bool.and_eq_true_iff.mp h).1, (Bool.and_eq_true_iff.mp h).2⟩
theorem slim_lst {ds : List PyData} (h : slim (.list ds) = true) : ds.length ≤ 1000 ∧ slimAll ds = true := by
  unfold slim at h
  exact ⟨of_decide_eq_true (Bool.and_eq_true_iff.mp h).1, (Bool.and_eq_true_iff.mp h).2⟩
def spSame (K : PySem.W.Frag) (n : Nat) : Sp := fun vs H Q _ => ∃ (x y : V) (d : PyData), vs = [x, y] ∧ Dp K H x d ∧ Dp K H y d ∧ d.depth < n ∧ slim d = true ∧ ∀ H', Same H H' → Q (.bl true) H'
theorem bF {b : Bool} {A B : Prop} (h : B) : if (!decide (V.bl b = V.bl b)) = true then A else B := by
  rw [decide_eq_true rfl]; exact iteF h
section
variable {P : Program} {w : World} {K : PySem.W.Frag} {mg : Str → Option Value} {base : Heap}
abbrev s_law_same : Stmt := topS 20
theorem sc_law_same : FnScope ["actual", "due", "k"] ["actual", "due"] (defScope s_law_same) := ⟨rfl, rfl, rfl, by decide +kernel, rfl, by decide +kernel, by decide +kernel⟩
-- slots: 0:actual(cell) 1:due(cell) 2:k(comp)
theorem ok_same {n : Nat} {f : Addr} {fd : FuncData} (F : Fun K "_law_same" "_law_same" s_law_same f fd) (T : Txt K mg) (C_law_same : C8.Cal P w K mg base n "_law_same" (spSame K n) []) :
    FnOk P w K mg base CX0 (n + 1) f fd ["actual", "due"] (spSame K (n + 1)) := by
  refine F.ok sc_law_same (fun vs H Q E h => ?_) (fun cdv A outer s H vs Q E hr h => ?_)
  · obtain ⟨x, y, d, rfl, _⟩ := h
    rfl
  obtain ⟨x, y, d, rfl, hx, hy, hd, hsl, q⟩ := h
  refine ⟨_, (pss_cons (ps_if (pt_cmpR op_isN (pv 1) pe_non (nomark _)) (pss_one (ps_ret (pe_cmpR op_isN (pv 0) pe_non (nomark _)))) pss_nil)
    (pss_cons (ps_if (PW.pt (pw_or (pt_cmpR op_ne (pe_callB call_isi (by rfl) T.z_isinstance (by decide +kernel) (pa_cons (pv 1) (pa_cons (pe_bltn (v := .ty "tuple") (by rfl) T.z_tuple (by decide +kernel) rfl) pa_nil))) (pe_callB call_isi (by rfl) T.z_isinstance (by decide +kernel) (pa_cons (pv 0) (pa_cons (pe_bltn (v := .ty "tuple") (by rfl) T.z_tuple (by decide +kernel) rfl) pa_nil))) (nomark _)) (pw_or1 (pt_cmpR op_ne (pe_callB call_isi (by rfl) T.z_isinstance (by decide +kernel) (pa_cons (pv 1) (pa_cons (pe_bltn (v := .ty "list") (by rfl) T.z_list (by decide +kernel) rfl) pa_nil))) (pe_callB call_isi (by rfl) T.z_isinstance (by decide +kernel) (pa_cons (pv 0) (pa_cons (pe_bltn (v := .ty "list") (by rfl) T.z_list (by decide +kernel) rfl) pa_nil))) (nomark _))))) (pss_one (ps_ret pe_bl)) pss_nil)
    (pss_cons (ps_if (PW.pt (pw_or (pt_val (pe_callB call_isi (by rfl) T.z_isinstance (by decide +kernel) (pa_cons (pv 1) (pa_cons (pe_bltn (v := .ty "tuple") (by rfl) T.z_tuple (by decide +kernel) rfl) pa_nil)))) (pw_or1 (pt_val (pe_callB call_isi (by rfl) T.z_isinstance (by decide +kernel) (pa_cons (pv 1) (pa_cons (pe_bltn (v := .ty "list") (by rfl) T.z_list (by decide +kernel) rfl) pa_nil))))))) (pss_one (ps_ret (pe_and (pe_cmpR op_eq (pe_callB call_len_seq (by rfl) T.z_len (by decide +kernel) (pa_cons (pv 0) pa_nil)) (pe_callB call_len_seq (by rfl) T.z_len (by decide +kernel) (pa_cons (pv 1) pa_nil)) (nomark _)) (pe_one (pe_callB (cr_all (by rfl)) (by rfl) T.z_all (by decide +kernel) (pa_cons (pe_lc (own := [("k", 2)]) (g := (gName 2)) (tt := tYes) (by rfl) sc_law_same.nd (pi_range1 (by rfl) T.z_range (pa_cons (pe_callB call_len_seq (by rfl) T.z_len (by decide +kernel) (pa_cons (pv 1) pa_nil)) pa_nil)) (blkOk_by (N := ["actual", "due", "k"]) (sc := defScope s_law_same) (by decide +kernel)) (fun _ _ _ _ _ => (pg_name (i := 2) sc_law_same.nd rfl (Or.inl rfl))) (fun _ _ _ _ _ => pts_nil) (fun _ _ _ _ _ => (C8.pe_c C_law_same hr (by omega) rfl (pa_cons (pe_ix (r := rIx K) ix_seq (pv 0) (pv 2) (fun _ _ => rfl)) (pa_cons (pe_ix (r := rIx K) ix_seq (pv 1) (pv 2) (fun _ _ => rfl)) pa_nil))))) pa_nil)))))) pss_nil)
    (pss_cons (ps_if (PW.pt (pw_or (pt_cmpR op_ne (pe_callB call_isi (by rfl) T.z_isinstance (by decide +kernel) (pa_cons (pv 1) (pa_cons (pe_bltn (v := .ty "bool") (by rfl) T.z_bool (by decide +kernel) rfl) pa_nil))) (pe_callB call_isi (by rfl) T.z_isinstance (by decide +kernel) (pa_cons (pv 0) (pa_cons (pe_bltn (v := .ty "bool") (by rfl) T.z_bool (by decide +kernel) rfl) pa_nil))) (nomark _)) (pw_or1 (pt_cmpR op_ne (pe_callB call_isi (by rfl) T.z_isinstance (by decide +kernel) (pa_cons (pv 1) (pa_cons (pe_bltn (v := .ty "str") (by rfl) T.z_str (by decide +kernel) rfl) pa_nil))) (pe_callB call_isi (by rfl) T.z_isinstance (by decide +kernel) (pa_cons (pv 0) (pa_cons (pe_bltn (v := .ty "str") (by rfl) T.z_str (by decide +kernel) rfl) pa_nil))) (nomark _))))) (pss_one (ps_ret pe_bl)) pss_nil)
    (pss_one (ps_ret (pe_and (pe_cmpR op_eq (pe_callB call_isi (by rfl) T.z_isinstance (by decide +kernel) (pa_cons (pv 1) (pa_cons (pe_bltn (v := .ty "int") (by rfl) T.z_int (by decide +kernel) rfl) pa_nil))) (pe_callB call_isi (by rfl) T.z_isinstance (by decide +kernel) (pa_cons (pv 0) (pa_cons (pe_bltn (v := .ty "int") (by rfl) T.z_int (by decide +kernel) rfl) pa_nil))) (nomark _)) (pe_one (pe_cmpR op_eq (pv 0) (pv 1) (nomark _)))))))))), ?_⟩
  have q0 := q H (Same.refl H)
  -- what is left for a scalar
  cases d with
  | none =>
    cases hx; cases hy
    exact ⟨_, rfl, rfl, _, rfl, iteT ⟨_, rfl, rfl, q0⟩⟩
  | bool b =>
    cases hx; cases hy
    have ty : TyX K H (.bl b) (.type "bool") := .base (.bl b)
    refine ⟨_, rfl, rfl, _, rfl, iteF (vIsi rfl ty (b := false) (by decide +kernel) (vIsi rfl ty (b := false) (by decide +kernel) ⟨rfl, _, rfl, bF (vIsi rfl ty (b := false) (by decide +kernel) (vIsi rfl ty (b := false) (by decide +kernel) ⟨rfl, _, rfl, bF ?_⟩))⟩))⟩
    refine vIsi rfl ty (b := false) (by decide +kernel) ⟨_, rfl, iteF (vIsi rfl ty (b := false) (by decide +kernel) ⟨_, rfl, iteF ?_⟩)⟩
    refine vIsi rfl ty (b := true) (by decide +kernel) (vIsi rfl ty (b := true) (by decide +kernel) ⟨rfl, _, rfl, bF (vIsi rfl ty (b := false) (by decide +kernel) (vIsi rfl ty (b := false) (by decide +kernel) ⟨rfl, _, rfl, bF ?_⟩))⟩)
    refine vIsi rfl ty (b := true) (by decide +kernel) (vIsi rfl ty (b := true) (by decide +kernel) ⟨rfl, _, rfl, ?_⟩)
    refine iteT ⟨_, rfl, _, rfl, rfl, ?_⟩
    rw [decide_eq_true rfl]
    exact q0
  | int b =>
    cases hx; cases hy
    have ty : TyX K H (.int b) (.type "int") := .base (.int b)
    refine ⟨_, rfl, rfl, _, rfl, iteF (vIsi rfl ty (b := false) (by decide +kernel) (vIsi rfl ty (b := false) (by decide +kernel) ⟨rfl, _, rfl, bF (vIsi rfl ty (b := false) (by decide +kernel) (vIsi rfl ty (b := false) (by decide +kernel) ⟨rfl, _, rfl, bF ?_⟩))⟩))⟩
    refine vIsi rfl ty (b := false) (by decide +kernel) ⟨_, rfl, iteF (vIsi rfl ty (b := false) (by decide +kernel) ⟨_, rfl, iteF ?_⟩)⟩
    refine vIsi rfl ty (b := false) (by decide +kernel) (vIsi rfl ty (b := false) (by decide +kernel) ⟨rfl, _, rfl, bF (vIsi rfl ty (b := false) (by decide +kernel) (vIsi rfl ty (b := false) (by decide +kernel) ⟨rfl, _, rfl, bF ?_⟩))⟩)
    refine vIsi rfl ty (b := true) (by decide +kernel) (vIsi rfl ty (b := true) (by decide +kernel) ⟨rfl, _, rfl, ?_⟩)
    refine iteT ⟨_, rfl, _, rfl, rfl, ?_⟩
    rw [decide_eq_true rfl]
    exact q0
  | str b =>
    cases hx; cases hy
    have ty : TyX K H (.str b) (.type "str") := .base (.str b)
    refine ⟨_, rfl, rfl, _, rfl, iteF (vIsi rfl ty (b := false) (by decide +kernel) (vIsi rfl ty (b := false) (by decide +kernel) ⟨rfl, _, rfl, bF (vIsi rfl ty (b := false) (by decide +kernel) (vIsi rfl ty (b := false) (by decide +kernel) ⟨rfl, _, rfl, bF ?_⟩))⟩))⟩
    refine vIsi rfl ty (b := false) (by decide +kernel) ⟨_, rfl, iteF (vIsi rfl ty (b := false) (by decide +kernel) ⟨_, rfl, iteF ?_⟩)⟩
    refine vIsi rfl ty (b := false) (by decide +kernel) (vIsi rfl ty (b := false) (by decide +kernel) ⟨rfl, _, rfl, bF (vIsi rfl ty (b := true) (by decide +kernel) (vIsi rfl ty (b := true) (by decide +kernel) ⟨rfl, _, rfl, bF ?_⟩))⟩)
    refine vIsi rfl ty (b := false) (by decide +kernel) (vIsi rfl ty (b := false) (by decide +kernel) ⟨rfl, _, rfl, ?_⟩)
    refine iteT ⟨_, rfl, _, rfl, rfl, ?_⟩
    rw [decide_eq_true rfl]
    exact q0
  | dict kvs => cases hx
  | tuple ds =>
    cases hx with
    | tup sx ax =>
    cases hy with
    | tup sy ay =>
    rename_i px xs py ys
    have tx := ty_tup sx
    have ty := ty_tup sy
    have lx := DpAll.length ax
    have ly := DpAll.length ay
    have hd' : PyData.depthAll ds + 1 < n + 1 := hd
    obtain ⟨hz, hsa⟩ := slim_seq hsl
    refine ⟨_, rfl, rfl, _, rfl, iteF (vIsi rfl ty (b := true) (by decide +kernel) (vIsi rfl tx (b := true) (by decide +kernel) ⟨rfl, _, rfl, bF (vIsi rfl ty (b := false) (by decide +kernel) (vIsi rfl tx (b := false) (by decide +kernel) ⟨rfl, _, rfl, bF ?_⟩))⟩))⟩
    refine vIsi rfl ty (b := true) (by decide +kernel) ⟨_, rfl, iteT (iteT ?_)⟩
    refine ⟨_, rfl, px, _, rfl, .inr sx, _, rfl, py, _, rfl, .inr sy, rfl, _, rfl, ?_⟩
    rw [show xs.length = ys.length by omega, decide_eq_true rfl]
    refine iteT ⟨_, rfl, py, _, rfl, .inr sy, _, rfl, by omega, by omega, fun D hD => lc_range (lo := 0) (n := ((ys.length : Nat) : Int).toNat) (fun i H' => i ≤ ys.length ∧ Same H H' ∧ H' D = some (.lst ((List.replicate i true).map V.bl))) ?_ ?_ ?_⟩
    · exact ⟨Nat.zero_le _, same_new hD, upd_same⟩
    · rintro i H' hi ⟨_, sm, hl⟩
      have hi' : i < ys.length := by omega
      have hi2 : i < ds.length := by omega
      have gd : ds[i]? = some ds[i] := List.getElem?_eq_getElem hi2
      obtain ⟨x1, gx, dx⟩ := DpAll.get ax gd
      obtain ⟨y1, gy, dy⟩ := DpAll.get ay gd
      have dd := depth_get gd
      have e0 : (0 : Int) + (i : Int) = (i : Int) := Int.zero_add _
      refine ⟨rfl, yes_ ⟨_, rfl, _, rfl, .inr (.inl ⟨px, xs, _, x1, rfl, rfl, Same.seqT sm sx, by rw [e0]; exact atI_nat gx, ?_⟩)⟩⟩
      refine ⟨_, rfl, _, rfl, .inr (.inl ⟨py, ys, _, y1, rfl, rfl, Same.seqT sm sy, by rw [e0]; exact atI_nat gy, ?_⟩)⟩
      refine ⟨x1, y1, ds[i], rfl, Dp.same dx sm, Dp.same dy sm, by omega, slim_get hsa gd, fun H2 s2 => ⟨_, s2 _ _ hl, ?_, hi', Same.upd (sm.trans s2) hD, ?_⟩⟩
      · rw [List.length_map, List.length_replicate]; exact smallL (by omega)
      · rw [upd_same, List.replicate_succ', List.map_append]; rfl
    · rintro H' ⟨_, sm, hl⟩
      refine ⟨D, _, rfl, SqL.of hl, ?_⟩
      have e2 : (List.replicate ((ys.length : Nat) : Int).toNat true).all id = true := by simp
      rw [e2]
      exact q H' sm
  | list ds =>
    cases hx with
    | lst sx ax =>
    cases hy with
    | lst sy ay =>
    rename_i px xs py ys
    have tx := ty_lst sx
    have ty := ty_lst sy
    have lx := DpAll.length ax
    have ly := DpAll.length ay
    have hd' : PyData.depthAll ds + 1 < n + 1 := hd
    obtain ⟨hz, hsa⟩ := slim_lst hsl
    refine ⟨_, rfl, rfl, _, rfl, iteF (vIsi rfl ty (b := false) (by decide +kernel) (vIsi rfl tx (b := false) (by decide +kernel) ⟨rfl, _, rfl, bF (vIsi rfl ty (b := true) (by decide +kernel) (vIsi rfl tx (b := true) (by decide +kernel) ⟨rfl, _, rfl, bF ?_⟩))⟩))⟩
    refine vIsi rfl ty (b := false) (by decide +kernel) ⟨_, rfl, iteF (vIsi rfl ty (b := true) (by decide +kernel) ⟨_, rfl, iteT ?_⟩)⟩
    refine ⟨_, rfl, px, _, rfl, .inl sx, _, rfl, py, _, rfl, .inl sy, rfl, _, rfl, ?_⟩
    rw [show xs.length = ys.length by omega, decide_eq_true rfl]
    refine iteT ⟨_, rfl, py, _, rfl, .inl sy, _, rfl, by omega, by omega, fun D hD => lc_range (lo := 0) (n := ((ys.length : Nat) : Int).toNat) (fun i H' => i ≤ ys.length ∧ Same H H' ∧ H' D = some (.lst ((List.replicate i true).map V.bl))) ?_ ?_ ?_⟩
    · exact ⟨Nat.zero_le _, same_new hD, upd_same⟩
    · rintro i H' hi ⟨_, sm, hl⟩
      have hi' : i < ys.length := by omega
      have hi2 : i < ds.length := by omega
      have gd : ds[i]? = some ds[i] := List.getElem?_eq_getElem hi2
      obtain ⟨x1, gx, dx⟩ := DpAll.get ax gd
      obtain ⟨y1, gy, dy⟩ := DpAll.get ay gd
      have dd := depth_get gd
      have e0 : (0 : Int) + (i : Int) = (i : Int) := Int.zero_add _
      refine ⟨rfl, yes_ ⟨_, rfl, _, rfl, .inl (id ⟨px, xs, _, x1, rfl, rfl, sm.seq sx, by rw [e0]; exact atI_nat gx, ?_⟩)⟩⟩
      refine ⟨_, rfl, _, rfl, .inl (id ⟨py, ys, _, y1, rfl, rfl, sm.seq sy, by rw [e0]; exact atI_nat gy, ?_⟩)⟩
      refine ⟨x1, y1, ds[i], rfl, Dp.same dx sm, Dp.same dy sm, by omega, slim_get hsa gd, fun H2 s2 => ⟨_, s2 _ _ hl, ?_, hi', Same.upd (sm.trans s2) hD, ?_⟩⟩
      · rw [List.length_map, List.length_replicate]; exact smallL (by omega)
      · rw [upd_same, List.replicate_succ', List.map_append]; rfl
    · rintro H' ⟨_, sm, hl⟩
      refine ⟨D, _, rfl, SqL.of hl, ?_⟩
      have e2 : (List.replicate ((ys.length : Nat) : Int).toNat true).all id = true := by simp
      rw [e2]
      exact q H' sm
end
end PK
namespace PK
open PySem L2
theorem Wd.strOk {x : Str} (h : Wd x) : PyData.strOk x = true := by
  unfold PyData.strOk
  rw [Array.all_eq_true_iff_forall_mem]
  intro s hs
  have h1 : ∀ s ∈ OTH.cps.toList, s < 1114112 := by decide +kernel
  exact decide_eq_true (h1 s (h.al s (by simpa using hs)))
theorem hd_ok (a : At) : PyData.strOk a.hd = true := by
  cases a
  · show PyData.strOk "int" = true; decide +kernel
  · show PyData.strOk "name" = true; decide +kernel
  · show PyData.strOk "addr" = true; decide +kernel
theorem At.lay {a : At} (h : a.W) : a.d.canLay0 = true := by
  have e : a.ld.canLay0 = true := by
    cases a with
    | int i => simp [At.ld, PyData.canLay0]
    | name s => simp only [At.ld, PyData.canLay0]; exact Wd.strOk h
    | addr i => simp [At.ld, PyData.canLay0]
  simp only [At.d, PyData.canLay0, PyData.canLayAll0, e, hd_ok, Bool.and_true]
theorem At.dep (a : At) : a.d.depth = 1 := by cases a <;> rfl
theorem ents_lay : ∀ {es : List (Str × At)}, (∀ e ∈ es, Wd e.1 ∧ e.2.W) → PyData.canLayAll0 (es.map ent) = true
  | [], _ => by simp [PyData.canLayAll0]
  | e :: r, h => by
    obtain ⟨h1, h2⟩ := h e List.mem_cons_self
    have ih := ents_lay (es := r) fun z hz => h z (List.mem_cons_of_mem _ hz)
    rw [List.map_cons]
    simp only [PyData.canLayAll0, ent, PyData.canLay0, h1.strOk, At.lay h2, ih, Bool.and_true]
theorem ents_dep : ∀ es : List (Str × At), PyData.depthAll (es.map ent) ≤ 2
  | [] => by decide
  | e :: r => by
    have ih := ents_dep r
    have h1 : (ent e).depth = 2 := by
      show max 0 (max e.2.d.depth 0) + 1 = 2
      rw [At.dep]; rfl
    show max (ent e).depth (PyData.depthAll (r.map ent)) ≤ 2
    omega
theorem Tm.dep (t : Tm) : t.d.depth ≤ 4 := by
  cases t with
  | atm a => show a.d.depth ≤ 4; rw [a.dep]; decide
  | map es =>
    have := ents_dep es
    show max 0 (max (PyData.depthAll (es.map ent) + 1) 0) + 1 ≤ 4
    omega
  | node a =>
    show max 0 (max 0 (max (max a.d.depth 0 + 1) 0)) + 1 ≤ 4
    rw [a.dep]; decide
theorem Tm.shaped {t : Tm} (h : t.W) : SeqAt.shaped t.d = true := by
  unfold SeqAt.shaped
  rw [Bool.and_eq_true_iff]
  refine ⟨?_, decide_eq_true (by have := t.dep; omega)⟩
  cases t with
  | atm a => exact At.lay h
  | map es =>
    have e := ents_lay h.2
    have s : PyData.strOk "map" = true := by decide +kernel
    simp only [Tm.d, PyData.canLay0, PyData.canLayAll0, e, s, Bool.and_true]
  | node a =>
    have e := At.lay (a := a) h
    have s : PyData.strOk "node" = true := by decide +kernel
    simp only [Tm.d, PyData.canLay0, PyData.canLayAll0, e, s, Bool.and_true]
theorem noth_shaped : SeqAt.shaped NOTH = true := by decide +kernel
theorem at_eqv (a b : At) : PyData.eqv a.d b.d = decide (a = b) := by
  have z1 : (("int" : Str) == "name") = false := by decide +kernel
  have z2 : (("int" : Str) == "addr") = false := by decide +kernel
  have z3 : (("name" : Str) == "addr") = false := by decide +kernel
  have z4 : (("name" : Str) == "int") = false := by decide +kernel
  have z5 : (("addr" : Str) == "int") = false := by decide +kernel
  have z6 : (("addr" : Str) == "name") = false := by decide +kernel
  cases a <;> cases b <;> simp [At.d, At.ld, At.hd, PyData.eqv, PyData.eqvAll, z1, z2, z3, z4, z5, z6] <;> rfl
theorem at_noth (a : At) : PyData.eqv a.d NOTH = false := by
  simp [At.d, NOTH, PyData.eqv, PyData.eqvAll]
theorem at_eqv_tm (a : At) (t : Tm) : PyData.eqv a.d t.d = eqB (some (.atm a)) (some t) := by
  cases t with
  | atm b => exact at_eqv a b
  | map es =>
    have z1 : (("int" : Str) == "map") = false := by decide +kernel
    have z2 : (("name" : Str) == "map") = false := by decide +kernel
    have z3 : (("addr" : Str) == "map") = false := by decide +kernel
    cases a <;> simp [Tm.d, At.d, At.ld, At.hd, PyData.eqv, PyData.eqvAll, eqB, z1, z2, z3]
  | node b => cases a <;> simp [Tm.d, At.d, At.ld, At.hd, PyData.eqv, PyData.eqvAll, eqB]
theorem Op.valW {tm : Str → Tm} {su : List Str} {o : Op} {t : Tm} (hw : o.W) (hm : ∀ x ∈ o.words, x ∈ su) (htm : ∀ x ∈ su, (tm x).W) (e : o.val tm = some t) : t.W := by
  cases o with
  | atm a => cases e; exact hw
  | mv x => cases e; exact htm x (hm x (List.mem_singleton.mpr rfl))
  | sum x n =>
    by_cases hi : ∃ i, tm x = .atm (.int i)
    · obtain ⟨i, ei⟩ := hi
      rw [sum_int ei] at e
      cases e; trivial
    · rw [sum_none hi] at e; cases e
def ohd : Option Tm → Str
  | some t => t.hd
  | none => "nothing"
theorem ost {K : PySem.W.Frag} {H : Hp} {v : V} : ∀ {o : Option Tm}, (∀ t, o = some t → Dt K H v t.d) → (o = none → Dt K H v NOTH) → ∃ a xs, v = .ref a ∧ SqT K H a xs ∧ atI xs 0 = some (.str (ohd o))
  | some t, h, _ => Tm.tup (h t rfl)
  | none, _, h => by
    obtain ⟨p, x, e, s, h1⟩ := Dt.t1 (h rfl)
    exact ⟨p, _, e, s, by rw [h1.s]; rfl⟩
theorem ohd_int {o : Option Tm} (h : ohd o = "int") : ∃ i, o = some (.atm (.int i)) := by
  cases o with
  | some t =>
    obtain ⟨i, e⟩ := hd_int (t := t) h
    exact ⟨i, by rw [e]⟩
  | none => exfalso; revert h; show ¬ (("nothing" : Str) = "int"); decide +kernel
theorem lessB_l {o u : Option Tm} (h : ohd o ≠ "int") : lessB o u = false := by
  cases o with
  | some t => exact lessB_int u h
  | none => exact lessB_none_l u
theorem lessB_r {o u : Option Tm} (h : ohd u ≠ "int") : lessB o u = false := by
  cases u with
  | some t =>
    cases o with
    | none => rfl
    | some s => cases s with
      | atm a => cases a with
        | int i => cases t with
          | atm b => cases b with
            | int j => exact absurd rfl h
            | name s => rfl
            | addr j => rfl
          | map es => rfl
          | node b => rfl
        | name s => rfl
        | addr i => rfl
      | map es => rfl
      | node a => rfl
  | none => exact lessB_none_r o
theorem ocmp (o : Option Tm) : (if false = true then !inV (.str (ohd o)) [.str "int", .str "name", .str "addr"] else inV (.str (ohd o)) [.str "int", .str "name", .str "addr"]) = (match o with | some t => isAt t | none => false) := by
  rw [if_neg Bool.false_ne_true]
  cases o with
  | some t => exact cmp_in t
  | none => show inV (.str "nothing") _ = false; decide +kernel
def Cn.W : Cn → Prop
  | .pl c => c.W
  | .no c => c.W
def spLHolds (K : PySem.W.Frag) (n : Nat) : Sp := fun vs H Q _ => ∃ (v : V) (fd : Addr) (cn : Cn) (sure : List Str) (tm : Str → Tm), vs = [v, .ref fd] ∧ Dt K H v cn.d ∧ Fnd K H fd sure tm ∧ cn.Ok sure ∧ cn.W ∧ (3 ≤ n ∨ (2 ≤ n ∧ ∃ c, cn = .pl c)) ∧
  ∀ (H' : Hp), Same H H' → Q (.bl (cn.holds tm)) H'
theorem Fnd.W {K : PySem.W.Frag} {H : Hp} {fd : Addr} {su : List Str} {tm : Str → Tm} (F : Fnd K H fd su tm) : ∀ x ∈ su, (tm x).W := fun x hx => by
  obtain ⟨_, _, _, h⟩ := F.get hx
  exact h
abbrev KDS : List (Key × V) := [(Sum.inr "integer", .str "int"), (Sum.inr "name", .str "name"), (Sum.inr "address", .str "addr"), (Sum.inr "map", .str "map")]
theorem kds_get (k : Kd) : valV (mergeK [] KDS) (Sum.inr k.s) = some (.str k.h) := by
  cases k
  · show valV (mergeK [] KDS) (Sum.inr "integer") = some (.str "int"); decide +kernel
  · show valV (mergeK [] KDS) (Sum.inr "name") = some (.str "name"); decide +kernel
  · show valV (mergeK [] KDS) (Sum.inr "address") = some (.str "addr"); decide +kernel
  · show valV (mergeK [] KDS) (Sum.inr "map") = some (.str "map"); decide +kernel
abbrev KN : List V := [.str "integer", .str "name", .str "address", .str "map"]
theorem kn_in (k : Kd) : (if false = true then !inV (.str k.s) KN else inV (.str k.s) KN) = true := by
  cases k
  · show inV (.str "integer") KN = true; decide +kernel
  · show inV (.str "name") KN = true; decide +kernel
  · show inV (.str "address") KN = true; decide +kernel
  · show inV (.str "map") KN = true; decide +kernel
section
variable {P : Program} {w : World} {K : PySem.W.Frag} {mg : Str → Option Value} {base : Heap}
abbrev s_law_holds : Stmt := topS 19
theorem sc_law_holds : FnScope ["condition", "found", "head", "kinds", "second", "mapping", "first", "entry"] ["condition", "found"] (defScope s_law_holds) := ⟨rfl, rfl, rfl, by decide +kernel, rfl, by decide +kernel, by decide +kernel⟩
-- slots: 0:condition 1:found 2:head 3:kinds 4:second(cell) 5:mapping 6:first 7:entry(comp)
theorem ok_lholds {n : Nat} {f : Addr} {fd : FuncData} (hn : 1 ≤ n) (F : Fun K "_law_holds" "_law_holds" s_law_holds f fd) (T : Txt K mg) (C_law_holds : C8.Cal P w K mg base n "_law_holds" (spLHolds K n) [])
    (C_law_stands : C8.Cal P w K mg base 1 "_law_stands" (spStands K) []) :
    FnOk P w K mg base CX0 (n + 1) f fd ["condition", "found"] (spLHolds K (n + 1)) := by
  refine F.ok sc_law_holds (fun vs H Q E h => ?_) (fun cdv A outer s H vs Q E hr h => ?_)
  · obtain ⟨v, b, cn, su, tm, rfl, _⟩ := h
    rfl
  obtain ⟨v, b, cn, su, tm, rfl, hv, hf, hok, hW, hlev, q⟩ := h
  have hu64 := hr.units
  refine ⟨_, (pss_cons (ps_set (i := 2) sc_law_holds.nd rfl (Or.inl rfl) (pe_ix ix_tup (pv 0) pe_int (fun _ _ => rfl)))
    (pss_cons (ps_if (pt_cmpR op_eq (pv 2) pe_str (nomark _)) (pss_one (ps_ret (pe_not (C8.pe_c C_law_holds hr (by omega) rfl (pa_cons (pe_ix ix_tup (pv 0) pe_int (fun _ _ => rfl)) (pa_cons (pv 1) pa_nil)))))) pss_nil)
    (pss_cons (ps_if (pt_cmpR op_in_seq (pv 2) (pe_tup (pa_cons pe_str (pa_cons pe_str (pa_cons pe_str (pa_cons pe_str pa_nil))))) rfl) (pss_cons (ps_set (i := 3) sc_law_holds.nd rfl (Or.inl rfl) (pe_disp (pps_cons pe_str pe_str (pps_cons pe_str pe_str (pps_cons pe_str pe_str (pps_cons pe_str pe_str pps_nil)))) (by rfl) (by rfl) (fun z => by cases z) (by decide)))
    (pss_one (ps_ret (pe_cmpR op_eq (pe_ix ix_tup (pe_dget (hu_of hr) (pv 1) (pe_ix ix_tup (pv 0) pe_int (fun _ _ => rfl)) (fun _ _ => rfl)) pe_int (fun _ _ => rfl)) (pe_dget (hu_of hr) (pv 3) (pv 2) (fun _ _ => rfl)) (nomark _))))) pss_nil)
    (pss_cons (ps_set (i := 4) sc_law_holds.nd rfl (Or.inr rfl) (C8.pe_c C_law_stands hr (by omega) rfl (pa_cons (pe_ix ix_tup (pv 0) pe_int (fun _ _ => rfl)) (pa_cons (pv 1) pa_nil))))
    (pss_cons (ps_if (pt_cmpR op_eq (pv 2) pe_str (nomark _)) (pss_cons (ps_set (i := 5) sc_law_holds.nd rfl (Or.inl rfl) (pe_dget (hu_of hr) (pv 1) (pe_ix ix_tup (pv 0) pe_int (fun _ _ => rfl)) (fun _ _ => rfl)))
    (pss_one (ps_ret (pe_and (pe_cmpR op_eq (pe_ix ix_tup (pv 5) pe_int (fun _ _ => rfl)) pe_str (nomark _)) (pe_and (pe_cmpR op_eq (pe_ix ix_tup (pv 4) pe_int (fun _ _ => rfl)) pe_str (nomark _)) (pe_one (pe_callB (cr_any (by rfl)) (by rfl) T.z_any (by decide +kernel) (pa_cons (pe_lc (own := [("entry", 7)]) (g := (gName 7)) (tt := tYes) (by rfl) sc_law_holds.nd (pi_tup (pe_ix ix_tup (pv 5) pe_int (fun _ _ => rfl))) (blkOk_by (N := ["condition", "found", "head", "kinds", "second", "mapping", "first", "entry"]) (sc := defScope s_law_holds) (by decide +kernel)) (fun _ _ _ _ _ => (pg_name (i := 7) sc_law_holds.nd rfl (Or.inl rfl))) (fun _ _ _ _ _ => pts_nil) (fun _ _ _ _ _ => (pe_cmpR op_eq (pe_ix (r := rIxT K) ix_tup (pv 7) pe_int (fun _ _ => rfl)) (pe_ix (r := rIxT K) ix_tup (pv 4) pe_int (fun _ _ => rfl)) (nomark _)))) pa_nil)))))))) pss_nil)
    (pss_cons (ps_set (i := 6) sc_law_holds.nd rfl (Or.inl rfl) (C8.pe_c C_law_stands hr (by omega) rfl (pa_cons (pe_ix ix_tup (pv 0) pe_int (fun _ _ => rfl)) (pa_cons (pv 1) pa_nil))))
    (pss_cons (ps_if (pt_cmpR op_eq (pv 2) pe_str (nomark _)) (pss_one (ps_ret (pe_and (pe_cmpR op_eq (pe_ix ix_tup (pv 6) pe_int (fun _ _ => rfl)) pe_str (nomark _)) (pe_and (pe_cmpR op_eq (pe_ix ix_tup (pv 4) pe_int (fun _ _ => rfl)) pe_str (nomark _)) (pe_one (pe_cmpR op_lt (pe_ix ix_tup (pv 6) pe_int (fun _ _ => rfl)) (pe_ix ix_tup (pv 4) pe_int (fun _ _ => rfl)) (nomark _))))))) pss_nil)
    (pss_one (ps_ret (pe_and (pe_cmpR op_in_seq (pe_ix ix_tup (pv 6) pe_int (fun _ _ => rfl)) (pe_tup (pa_cons pe_str (pa_cons pe_str (pa_cons pe_str pa_nil)))) rfl) (pe_one (pe_cmpR (op_eqD hu64) (pv 6) (pv 4) (nomark _))))))))))))), ?_⟩
  have four : KN.length ≤ sizeLine := small (by decide)
  cases cn with
  | no c =>
    obtain ⟨p, x, y, rfl, hs, h1, h2⟩ := Dt.t2 hv
    obtain rfl := h1.s
    refine vTx rfl hs rfl ⟨_, rfl, rfl, _, rfl, sT rfl (vTx rfl hs rfl ⟨_, rfl, y, b, .pl c, su, tm, rfl, h2, hf, hok, hW, ?_, fun H' sm => ⟨_, rfl, q H' sm⟩⟩)⟩
    rcases hlev with h | ⟨_, c', h⟩
    · exact .inr ⟨by omega, c, rfl⟩
    · cases h
  | pl c =>
    cases c with
    | kind k x =>
      obtain ⟨p, x1, y, rfl, hs, h1, h2⟩ := Dt.t2 hv
      obtain rfl := h1.s
      obtain rfl := h2.s
      have hx : x ∈ su := hok x (List.mem_singleton.mpr rfl)
      refine vTx rfl hs rfl ⟨_, rfl, rfl, _, rfl, sF k.not ⟨_, rfl, four, fun t ht => ⟨t, _, rfl, .inr (SqT.of upd_same), rfl, rfl, _, rfl, ?_⟩⟩⟩
      rw [kn_in]
      have s1 := same_new (o := .tup KN) ht
      refine iteT fun d hd => ⟨upd_same, KDS, rfl, by decide, ?_⟩
      have s2 : Same H (upd (upd (upd H t (.tup KN)) d (.dK [])) d (.dK (mergeK [] KDS))) := by
        rw [upd_upd]
        exact Same.upd s1 (s1.free hd)
      obtain ⟨v, g, dv, _⟩ := (hf.same s2).get hx
      obtain ⟨p2, xs2, rfl, hs2, k2⟩ := Tm.tup dv
      refine ⟨_, rfl, vTx rfl (Same.seqT s2 hs) rfl ⟨b, _, rfl, g, p2, _, _, _, rfl, rfl, hs2, k2, _, rfl, _, rfl, d, .str k.h, rfl, ?_, rfl, ?_⟩⟩
      · rw [← kds_get k]
        exact DGet.k (k := Sum.inr k.s) upd_same
      have z := q _ s2
      have e : decide (V.str (tm x).hd = V.str k.h) = Cn.holds tm (.pl (.kind k x)) := by
        show _ = decide ((tm x).hd = k.h)
        simp
      rw [e]
      exact z
    | has x k =>
      obtain ⟨p, x1, y, z, rfl, hs, h1, h2, h3⟩ := Dt.t3 hv
      obtain rfl := h1.s
      obtain rfl := h2.s
      obtain ⟨hx, hkw, hks⟩ : x ∈ su ∧ (∀ y ∈ k.words, y ∈ su) ∧ ∀ w n, k ≠ .sum w n := hok
      have kn : (if false = true then !inV (.str "has") KN else inV (.str "has") KN) = false := by decide +kernel
      refine vTx rfl hs rfl ⟨_, rfl, rfl, _, rfl, sF (by decide +kernel) ⟨_, rfl, four, fun t ht => ⟨t, _, rfl, .inr (SqT.of upd_same), rfl, rfl, _, rfl, ?_⟩⟩⟩
      rw [kn]
      have s1 := same_new (o := .tup KN) ht
      refine iteF (vTx rfl (Same.seqT s1 hs) rfl ⟨_, rfl, z, b, k, su, tm, rfl, h3.same s1, hf.same s1, hkw, fun v2 H2 s2 hv2 _ => ?_⟩)
      obtain ⟨t2, e2⟩ : ∃ t, k.val tm = some t := by
        cases k with
        | atm a => exact ⟨_, rfl⟩
        | mv w => exact ⟨_, rfl⟩
        | sum w n => exact absurd rfl (hks w n)
      have d2 := hv2 t2 e2
      have s12 := s1.trans s2
      obtain ⟨v1, g, d1, w1⟩ := (hf.same s12).get hx
      obtain ⟨p1, xs1, rfl, hs1, k1⟩ := Tm.tup d1
      obtain ⟨p2, xs2, rfl, hs2, k2⟩ := Tm.tup d2
      refine ⟨_, rfl, rfl, _, rfl, sT rfl ⟨_, rfl, vTx rfl (Same.seqT s12 hs) rfl ⟨b, _, rfl, g, ?_⟩⟩⟩
      have e : Cn.holds tm (.pl (.has x k)) = hasB (tm x) t2 := by
        show (match k.val tm with | some t => hasB (tm x) t | none => false) = _
        rw [e2]
      have z := fun H' sm => q H' sm
      rw [e] at z
      refine vTx rfl hs1 k1 ⟨rfl, _, rfl, ?_⟩
      by_cases em : (tm x).hd = "map"
      · refine sT em (vTx rfl hs2 k2 ⟨rfl, _, rfl, ?_⟩)
        by_cases en : t2.hd = "name"
        · refine sT en ?_
          obtain ⟨es, ee⟩ := hd_map em
          obtain ⟨s, rfl⟩ := hd_name en
          rw [ee] at d1 z w1
          obtain ⟨p3, x3, y3, e3, s3, k3, k4⟩ := Dt.t2 d1
          obtain ⟨p4, x4, y4, e4, s4, k5, k6⟩ := Dt.t2 d2
          cases e3; cases e4
          obtain rfl := k6.s
          obtain ⟨pe, xe, rfl, se, ke⟩ := Dt.tn k4
          have le : xe.length = es.length := by rw [DtAll.length ke, List.length_map]
          have wl := w1.1
          refine vTx rfl s3 rfl ⟨pe, rfl, ⟨_, se⟩, fun D hD => lc_tup (K := K) (a := pe) (xs := xe) (fun i H' => Same H2 H' ∧ i ≤ es.length ∧ H' D = some (.lst (((es.take i).map fun e => decide (e.1 = s)).map V.bl))) ⟨same_new hD, Nat.zero_le _, upd_same⟩ (fun i H' _ h => Same.seqT h.1 se) ?_ ?_⟩
          · rintro i x H' hi ⟨sm', hle, hd⟩
            have hi2 : i < es.length := by rw [← le]; exact (List.getElem?_eq_some_iff.mp hi).1
            obtain ⟨d, hd1, hx⟩ := ke.get hi
            rw [List.getElem?_map, List.getElem?_eq_getElem hi2] at hd1
            cases hd1
            obtain ⟨pp, xx, yy, rfl, ss, q1, q2⟩ := Dt.t2 hx
            obtain rfl := q1.s
            refine ⟨rfl, yes_ (vTx rfl (Same.seqT sm' ss) rfl (vTx rfl (Same.seqT sm' s4) rfl ⟨rfl, _, hd, ?_, Same.upd sm' hD, hi2, ?_⟩))⟩
            · rw [List.length_map, List.length_map, List.length_take]
              exact smallL (by omega)
            · rw [upd_same, List.take_add_one, List.getElem?_eq_getElem hi2, List.map_append, List.map_append]
              have ed : decide (V.str es[i].1 = V.str s) = decide (es[i].1 = s) := by simp
              rw [ed]
              rfl
          · rintro H' ⟨sm', hle, hd⟩
            rw [List.take_of_length_le (by omega)] at hd
            refine ⟨D, _, rfl, SqL.of hd, ?_⟩
            have zz := z H' (s12.trans sm')
            have ea : (es.map fun e => decide (e.1 = s)).any id = hasB (.map es) (.atm (.name s)) := by
              show _ = es.any fun e => decide (e.1 = s)
              rw [List.any_map]
              rfl
            rw [ea]
            exact zz
        · refine sF en ?_
          have zz := z H2 s12
          rw [hasB_r en] at zz
          have e0 : decide (V.str t2.hd = V.str "name") = false := decide_eq_false fun z => en (V.str.inj z)
          exact zz
      · refine sF em ?_
        have zz := z H2 s12
        rw [hasB_l em] at zz
        exact zz
    | eq o1 o2 =>
      obtain ⟨p, x1, y, z, rfl, hs, h1, h2, h3⟩ := Dt.t3 hv
      obtain rfl := h1.s
      have hw1 : ∀ x ∈ o1.words, x ∈ su := fun x hx => hok x (List.mem_append_left _ hx)
      have hw2 : ∀ x ∈ o2.words, x ∈ su := fun x hx => hok x (List.mem_append_right _ hx)
      have kn : (if false = true then !inV (.str "equal") KN else inV (.str "equal") KN) = false := by decide +kernel
      refine vTx rfl hs rfl ⟨_, rfl, rfl, _, rfl, sF (by decide +kernel) ⟨_, rfl, four, fun t ht => ⟨t, _, rfl, .inr (SqT.of upd_same), rfl, rfl, _, rfl, ?_⟩⟩⟩
      rw [kn]
      have s1 := same_new (o := .tup KN) ht
      refine iteF (vTx rfl (Same.seqT s1 hs) rfl ⟨_, rfl, z, b, o2, su, tm, rfl, h3.same s1, hf.same s1, hw2, fun v2 H2 s2 e2 n2 => ?_⟩)
      have s12 := s1.trans s2
      refine ⟨_, rfl, rfl, _, rfl, sF (by decide +kernel) (vTx rfl (Same.seqT s12 hs) rfl ⟨_, rfl, y, b, o1, su, tm, rfl, h2.same s12, hf.same s12, hw1, fun v1 H3 s3 e1 n1 => ?_⟩)⟩
      have s123 := s12.trans s3
      have qq := q H3 s123
      generalize ew : Cn.holds tm (.pl (.eq o1 o2)) = bb at qq
      have ew' : eqB (o1.val tm) (o2.val tm) = bb := ew
      have w1 : ∀ t, o1.val tm = some t → t.W := fun t e => Op.valW hW.1 hw1 hf.W e
      have w2 : ∀ t, o2.val tm = some t → t.W := fun t e => Op.valW hW.2 hw2 hf.W e
      have e2' : ∀ t, o2.val tm = some t → Dt K H3 v2 t.d := fun t e => (e2 t e).same s3
      have n2' : o2.val tm = none → Dt K H3 v2 NOTH := fun e => (n2 e).same s3
      generalize o1.val tm = r1 at ew' w1 e1 n1
      generalize o2.val tm = r2 at ew' w2 e2' n2'
      obtain ⟨p1, xs1, rfl, hs1, k1⟩ := ost e1 n1
      obtain ⟨p2, xs2, rfl, hs2, k2⟩ := ost e2' n2'
      refine ⟨_, rfl, rfl, _, rfl, sF (by decide +kernel) ?_⟩
      refine vTx rfl hs1 k1 ⟨small (by show 3 ≤ _; decide), fun t4 ht4 => ⟨t4, _, rfl, .inr (SqT.of upd_same), rfl, rfl, _, rfl, ?_⟩⟩
      rw [ocmp]
      have s4 := same_new (o := .tup [.str "int", .str "name", .str "addr"]) ht4
      have qq2 := q _ (s123.trans s4)
      rw [ew] at qq2
      cases r1 with
      | none =>
        rw [eqB_none_l] at ew'
        subst ew'
        exact iteF qq2
      | some t1 =>
        show (if isAt t1 = true then _ else _)
        cases ea : isAt t1 with
        | false =>
          rw [eqB_at _ ea] at ew'
          subst ew'
          exact iteF qq2
        | true =>
          cases t1 with
          | atm a =>
            have d1 := ((e1 _ rfl).same s4).dp
            cases r2 with
            | none =>
              have d2 := ((n2' rfl).same s4).dp
              rw [eqB_none_r] at ew'
              subst ew'
              refine iteT ⟨_, rfl, _, rfl, _, _, d1, d2, Tm.shaped (w1 _ rfl), noth_shaped, ?_⟩
              rw [show PyData.eqv (Tm.atm a).d NOTH = false from at_noth a]
              exact qq2
            | some t2 =>
              have d2 := ((e2' _ rfl).same s4).dp
              refine iteT ⟨_, rfl, _, rfl, _, _, d1, d2, Tm.shaped (w1 _ rfl), Tm.shaped (w2 _ rfl), ?_⟩
              rw [show PyData.eqv (Tm.atm a).d t2.d = eqB (some (.atm a)) (some t2) from at_eqv_tm a t2, ew']
              exact qq2
          | map es => cases ea
          | node a => cases ea
    | less o1 o2 =>
      obtain ⟨p, x1, y, z, rfl, hs, h1, h2, h3⟩ := Dt.t3 hv
      obtain rfl := h1.s
      have hw1 : ∀ x ∈ o1.words, x ∈ su := fun x hx => hok x (List.mem_append_left _ hx)
      have hw2 : ∀ x ∈ o2.words, x ∈ su := fun x hx => hok x (List.mem_append_right _ hx)
      have kn : (if false = true then !inV (.str "less") KN else inV (.str "less") KN) = false := by decide +kernel
      refine vTx rfl hs rfl ⟨_, rfl, rfl, _, rfl, sF (by decide +kernel) ⟨_, rfl, four, fun t ht => ⟨t, _, rfl, .inr (SqT.of upd_same), rfl, rfl, _, rfl, ?_⟩⟩⟩
      rw [kn]
      have s1 := same_new (o := .tup KN) ht
      refine iteF (vTx rfl (Same.seqT s1 hs) rfl ⟨_, rfl, z, b, o2, su, tm, rfl, h3.same s1, hf.same s1, hw2, fun v2 H2 s2 e2 n2 => ?_⟩)
      have s12 := s1.trans s2
      refine ⟨_, rfl, rfl, _, rfl, sF (by decide +kernel) (vTx rfl (Same.seqT s12 hs) rfl ⟨_, rfl, y, b, o1, su, tm, rfl, h2.same s12, hf.same s12, hw1, fun v1 H3 s3 e1 n1 => ?_⟩)⟩
      have s123 := s12.trans s3
      have qq := q H3 s123
      generalize ew : Cn.holds tm (.pl (.less o1 o2)) = bb at qq
      have ew' : lessB (o1.val tm) (o2.val tm) = bb := ew
      have w1 : ∀ t, o1.val tm = some t → t.W := fun t e => Op.valW hW.1 hw1 hf.W e
      have w2 : ∀ t, o2.val tm = some t → t.W := fun t e => Op.valW hW.2 hw2 hf.W e
      have e2' : ∀ t, o2.val tm = some t → Dt K H3 v2 t.d := fun t e => (e2 t e).same s3
      have n2' : o2.val tm = none → Dt K H3 v2 NOTH := fun e => (n2 e).same s3
      generalize o1.val tm = r1 at ew' w1 e1 n1
      generalize o2.val tm = r2 at ew' w2 e2' n2'
      obtain ⟨p1, xs1, rfl, hs1, k1⟩ := ost e1 n1
      obtain ⟨p2, xs2, rfl, hs2, k2⟩ := ost e2' n2'
      refine ⟨_, rfl, rfl, _, rfl, sT rfl ?_⟩
      refine vTx rfl hs1 k1 ⟨rfl, _, rfl, ?_⟩
      by_cases ei : ohd r1 = "int"
      · obtain ⟨i, rfl⟩ := ohd_int ei
        refine sT ei (vTx rfl hs2 k2 ⟨rfl, _, rfl, ?_⟩)
        by_cases ej : ohd r2 = "int"
        · obtain ⟨j, rfl⟩ := ohd_int ej
          obtain ⟨p3, x3, y3, e3, s5, g1, g2⟩ := Dt.t2 (e1 _ rfl)
          obtain ⟨p4, x4, y4, e4, s6, g3, g4⟩ := Dt.t2 (e2' _ rfl)
          cases e3; cases e4
          obtain rfl := g2.i
          obtain rfl := g4.i
          refine sT ej (vTx rfl s5 rfl (vTx rfl s6 rfl ⟨_, _, rfl, rfl, ?_⟩))
          have ew2 : decide (i < j) = bb := ew'
          show Q (.bl (decide (i < j))) _
          rw [ew2]
          exact qq
        · rw [lessB_r ej] at ew'
          subst ew'
          exact sF ej qq
      · rw [lessB_l ei] at ew'
        subst ew'
        exact sF ei qq
end
end PK
namespace PK
open PySem L2
/-! the pool -/
def enc (z : Int) : Int := if 0 ≤ z then 2 * z else -2 * z - 1
def spPool (K : PySem.W.Frag) : Sp := fun vs H Q _ => ∃ (a : Addr) (ns : List Int), vs = [.ref a] ∧ SqL K H a (ns.map V.int) ∧ ns.length ≤ 63 ∧
  ∀ (H' : Hp) (l c : Addr), Same H H' → H l = none → Pool H' l c → Q (.ref l) H'
section
variable {P : Program} {w : World} {K : PySem.W.Frag} {mg : Str → Option Value} {base : Heap}
abbrev s_law_pool : Stmt := topS 10
theorem sc_law_pool : FnScope ["script", "cell"] ["script"] (defScope s_law_pool) := ⟨rfl, rfl, rfl, by decide +kernel, rfl, by decide +kernel, by decide +kernel⟩
-- slots: 0:script 1:cell(comp)
theorem ok_pool {f : Addr} {fd : FuncData} (F : Fun K "_law_pool" "_law_pool" s_law_pool f fd) :
    FnOk P w K mg base CX0 1 f fd ["script"] (spPool K) := by
  refine F.ok sc_law_pool (fun vs H Q E h => ?_) (fun cdv A outer s H vs Q E hr h => ?_)
  · obtain ⟨a, ns, rfl, _⟩ := h
    rfl
  obtain ⟨a, ns, rfl, hS, hlen, q⟩ := h
  refine ⟨_, (pss_one (ps_ret (pe_lst (pa_cons (pe_lc (own := [("cell", 1)]) (g := (gName 1)) (tt := tYes) (by rfl) sc_law_pool.nd (pi_list (pv 0)) (blkOk_by (N := ["script", "cell"]) (sc := defScope s_law_pool) (by decide +kernel)) (fun _ _ _ _ _ => (pg_name (i := 1) sc_law_pool.nd rfl (Or.inl rfl))) (fun _ _ _ _ _ => pts_nil) (fun _ _ _ _ _ => (pe_ifExp (pt_cmpR op_ge (pv 1) pe_int (nomark _)) (pe_op op_mul pe_int (pv 1)) (pe_op op_sub (pe_op op_mul (pe_un un_neg pe_int) (pv 1)) pe_int)))) (pa_cons pe_int (pa_cons pe_int (pa_cons pe_int pa_nil))))))), ?_⟩
  refine ⟨_, rfl, a, rfl, ⟨_, hS⟩, fun D hD => lc_list (K := K) (a := a) (xs := ns.map V.int) (fun i H' => i ≤ ns.length ∧ Same H H' ∧ H' D = some (.lst (((ns.take i).map enc).map V.int))) ⟨Nat.zero_le _, same_new hD, upd_same⟩ (fun i H' _ h => h.2.1.seq hS) ?_ ?_⟩
  · rintro i x H' hi ⟨_, sm, hd⟩
    have hi2 : i < ns.length := by
      have := (List.getElem?_eq_some_iff.mp hi).1
      rw [List.length_map] at this
      exact this
    rw [List.getElem?_map, List.getElem?_eq_getElem hi2] at hi
    cases hi
    have fin : ∀ z : Int, z = enc ns[i] → upd H' D (.lst (((ns.take i).map enc).map V.int ++ [V.int z])) D = some (.lst (((ns.take (i + 1)).map enc).map V.int)) := fun z e => by
      rw [upd_same, List.take_add_one, List.getElem?_eq_getElem hi2, List.map_append, List.map_append, e]
      rfl
    have ll : (((ns.take i).map enc).map V.int).length < sizeLine := by
      rw [List.length_map, List.length_map, List.length_take]
      exact smallL (by omega)
    refine ⟨rfl, yes_ ⟨_, rfl, _, _, rfl, rfl, _, rfl, ite2 (fun e => ?_) (fun e => ?_)⟩⟩
    · have e' : ns[i] ≥ 0 := of_decide_eq_true e
      exact ⟨_, rfl, _, _, rfl, rfl, .inl ⟨by decide, by decide⟩, _, hd, ll, hi2, Same.upd sm hD, fin _ (by unfold enc; rw [if_pos e'])⟩
    · have e' : ¬ ns[i] ≥ 0 := fun z => e (decide_eq_true z)
      exact ⟨_, rfl, _, rfl, _, _, rfl, rfl, .inl ⟨by decide, by decide⟩, _, _, rfl, rfl, _, hd, ll, hi2, Same.upd sm hD, fin _ (by unfold enc; rw [if_neg (by omega)])⟩
  · rintro H' ⟨_, sm, hd⟩
    rw [List.length_map, List.take_of_length_le (Nat.le_refl _)] at hd
    refine ⟨small (by show 4 ≤ _; decide), fun p hp => ?_⟩
    refine q _ p D (Same.upd sm (sm.free hp)) (sm.free hp) ⟨ns.map enc, 0, 0, 17, upd_same, by rw [upd_ne (ne_of_none hd hp)]; exact hd, ne_of_none hd hp, fun n hn => ?_, by decide, by decide, by decide, by decide, False.elim⟩
    obtain ⟨z, _, rfl⟩ := List.mem_map.mp hn
    unfold enc
    split <;> omega
end
/-! order of texts -/
theorem rising_pw : ∀ (p : Str) (l : List Str), PyProof.Rows.risingS p l = true → (∀ x ∈ l, p.cps.toList ≤ x.cps.toList) ∧ l.Pairwise fun a b => a.cps.toList ≤ b.cps.toList
  | _, [], _ => ⟨fun _ h => (nomatch h), .nil⟩
  | p, x :: r, h => by
    unfold PyProof.Rows.risingS at h
    obtain ⟨h1, h2⟩ := Bool.and_eq_true_iff.mp h
    obtain ⟨i1, i2⟩ := rising_pw x r h2
    rw [PyProof.Rows.ltCps_eq] at h1
    have h3 : p.cps.toList ≤ x.cps.toList := List.not_lt.mp (by simpa using h1)
    refine ⟨fun y hy => ?_, List.pairwise_cons.mpr ⟨i1, i2⟩⟩
    rcases List.mem_cons.mp hy with e | e
    · rw [e]; exact h3
    · exact List.le_trans h3 (i1 y e)
theorem sorted_pw : ∀ (l : List Str), PyProof.Rows.sortedS l = true → l.Pairwise fun a b => a.cps.toList ≤ b.cps.toList
  | [], _ => .nil
  | x :: r, h => List.pairwise_cons.mpr (rising_pw x r h)
theorem sorted_one {l m : List Str} (h1 : PyProof.Rows.sortedS l = true) (h2 : PyProof.Rows.sortedS m = true) (h : l.Perm m) : l = m :=
  List.Perm.eq_of_pairwise (fun a b _ _ x y => Str.ext' (Array.toList_inj.mp (List.le_antisymm x y))) (sorted_pw l h1) (sorted_pw m h2) h
/-! slim data -/
theorem slim_tup {ds : List PyData} (h : ds.length ≤ 1000) (h2 : slimAll ds = true) : slim (.tuple ds) = true := by
  unfold slim
  exact Bool.and_eq_true_iff.mpr ⟨decide_eq_true h, h2⟩
theorem slim_list {ds : List PyData} (h : ds.length ≤ 1000) (h2 : slimAll ds = true) : slim (.list ds) = true := by
  unfold slim
  exact Bool.and_eq_true_iff.mpr ⟨decide_eq_true h, h2⟩
theorem slim_all : ∀ {ds : List PyData}, (∀ d ∈ ds, slim d = true) → slimAll ds = true
  | [], _ => by unfold slimAll; rfl
  | d :: r, h => by
    unfold slimAll
    exact Bool.and_eq_true_iff.mpr ⟨h d List.mem_cons_self, slim_all fun x hx => h x (List.mem_cons_of_mem _ hx)⟩
theorem slim_str (x : Str) : slim (.str x) = true := by unfold slim; rfl
theorem At.slim (a : At) : PK.slim a.d = true := by
  refine slim_tup (Nat.le_of_ble_eq_true rfl) (slim_all fun d hd => ?_)
  rcases List.mem_cons.mp hd with e | e
  · rw [e]; exact slim_str _
  · rw [List.mem_singleton.mp e]
    cases a <;> (simp only [At.ld]; unfold PK.slim; rfl)
theorem Tm.slim {t : Tm} (h : t.W) : PK.slim t.d = true := by
  cases t with
  | atm a => exact a.slim
  | map es =>
    refine slim_tup (by show 2 ≤ _; decide) (slim_all fun d hd => ?_)
    rcases List.mem_cons.mp hd with e | e
    · rw [e]; exact slim_str _
    · rw [List.mem_singleton.mp e]
      refine slim_tup (by rw [List.length_map]; have := h.1; omega) (slim_all fun d hd => ?_)
      obtain ⟨e, _, rfl⟩ := List.mem_map.mp hd
      refine slim_tup (Nat.le_of_ble_eq_true rfl) (slim_all fun d hd => ?_)
      rcases List.mem_cons.mp hd with e | e
      · rw [e]; exact slim_str _
      · rw [List.mem_singleton.mp e]; exact At.slim _
  | node a =>
    refine slim_tup (Nat.le_of_ble_eq_true rfl) (slim_all fun d hd => ?_)
    rcases List.mem_cons.mp hd with e | e
    · rw [e]; exact slim_str _
    rcases List.mem_cons.mp e with e | e
    · rw [e]; exact slim_str _
    · rw [List.mem_singleton.mp e]
      exact slim_tup (Nat.le_of_ble_eq_true rfl) (slim_all fun d hd => by rw [List.mem_singleton.mp hd]; exact a.slim)
theorem depth_all : ∀ {ds : List PyData} {n : Nat}, (∀ d ∈ ds, d.depth ≤ n) → PyData.depthAll ds ≤ n
  | [], _, _ => Nat.zero_le _
  | d :: r, n, h => by
    show max _ _ ≤ n
    have h1 := h d List.mem_cons_self
    have h2 := depth_all (ds := r) fun x hx => h x (List.mem_cons_of_mem _ hx)
    omega
/-! the dict of what is found -/
theorem Fnd.keys {kvs : List (Key × V)} {k : Key} {v : V} (h : (valV kvs k).isSome = true) : (putK kvs k v).map (·.1) = kvs.map (·.1) := by
  unfold putK
  rw [valV_any, h, if_pos rfl, List.map_map]
  apply List.map_congr_left
  intro p hp
  show (if p.1 = k then (p.1, v) else p).1 = p.1
  split <;> rfl
/-- a sure word stands for another term -/
def setT (tm : Str → Tm) (x : Str) (t : Tm) : Str → Tm := fun y => if y = x then t else tm y
def kd (tm : Str → Tm) (x : Str) : PyData := .tuple [.str x, (tm x).d]
def cd (tm : Str → Tm) (cn : Cn) : PyData := .tuple [cn.d, .bool (cn.holds tm)]
theorem strs_dp {K : PySem.W.Frag} {H : Hp} {p : Addr} {ws : List Str} (h : H p = some (.lst (ws.map V.str))) : Dp K H (.ref p) (.list (ws.map PyData.str)) := by
  refine .lst (SqL.of h) ?_
  clear h
  induction ws with
  | nil => exact .nil
  | cons x r ih => exact .cons (.str x) ih
theorem Cn.wlen (cn : Cn) : cn.words.length ≤ 2 := by
  have h : ∀ c : Cd, c.words.length ≤ 2 := fun c => by
    cases c with
    | kind k x => show 1 ≤ 2; decide
    | eq a b =>
      have := a.wlen
      have := b.wlen
      show (a.words ++ b.words).length ≤ 2
      rw [List.length_append]; omega
    | less a b =>
      have := a.wlen
      have := b.wlen
      show (a.words ++ b.words).length ≤ 2
      rw [List.length_append]; omega
    | has x k =>
      have := k.wlen
      show k.words.length + 1 ≤ 2
      omega
  cases cn with
  | pl c => exact h c
  | no c => exact h c
theorem tm_noth (t : Tm) : PyData.eqv t.d NOTH = false := by
  cases t with
  | atm a => exact at_noth a
  | map es => simp [Tm.d, NOTH, PyData.eqv, PyData.eqvAll]
  | node a => simp [Tm.d, NOTH, PyData.eqv, PyData.eqvAll]
theorem noth_noth : PyData.eqv NOTH NOTH = true := by
  simp [NOTH, PyData.eqv, PyData.eqvAll]
theorem merge2 {a b : Key} {x y : V} (h : a ≠ b) : mergeK [] [(a, x), (b, y)] = [(a, x), (b, y)] := by
  show putK (putK [] a x) b y = _
  rw [putK_new x (valV_nil), List.nil_append, putK_new y (by rw [valV_tl h]; rfl)]
  rfl
end PK
namespace PK
open PySem L2
theorem Pool.same {H H' : Hp} {l c : Addr} (P : Pool H l c) (e : Same H H') : Pool H' l c := by
  obtain ⟨ns, i, r, s, hl, hc, z⟩ := P
  exact ⟨ns, i, r, s, e _ _ hl, e _ _ hc, z⟩
theorem Ext.same {H H1 H2 : Hp} {l c : Addr} (x : Ext l c H H1) (e : Same H1 H2) : Ext l c H H2 := ⟨fun b o hb h => e _ _ (x.keep b o hb h), x.pool.same e⟩
/-- a new tuple at the end of a list of data -/
theorem snoc_data {K : PySem.W.Frag} {H : Hp} {D t : Addr} {o : HO} {vs : List V} {ds : List PyData} {d : PyData} (da : DtAll K H vs ds) (hD : H D = some (.lst vs)) (ht : H t = none) (dt : Dt K (upd H t o) (.ref t) d) :
    (upd H t o) D = some (.lst vs) ∧ DtAll K (upd (upd H t o) D (.lst (vs ++ [.ref t]))) (vs ++ [.ref t]) (ds ++ [d]) := by
  have h1 : (upd H t o) D = some (.lst vs) := by rw [upd_ne (ne_of_none hD ht)]; exact hD
  refine ⟨h1, DtAll.mono (fun _ _ z => seqT_upd z h1) _ _ (DtAll.append (DtAll.mono (fun _ _ z => Same.seqT (same_new ht) z) _ _ da) (.cons dt .nil))⟩
theorem DtAll.ext {K : PySem.W.Frag} {H H' : Hp} {l c : Addr} {vs : List V} {ds : List PyData} (h : DtAll K H vs ds) (P : Pool H l c) (x : Ext l c H H') : DtAll K H' vs ds := DtAll.mono (fun _ _ z => x.seqT P z) _ _ h
theorem DtAll.same {K : PySem.W.Frag} {H H' : Hp} {vs : List V} {ds : List PyData} (h : DtAll K H vs ds) (x : Same H H') : DtAll K H' vs ds := DtAll.mono (fun _ _ z => Same.seqT x z) _ _ h
def spLaw (K : PySem.W.Frag) : Sp := fun vs H Q _ => ∃ (a : Addr) (ns : List Int), vs = [.ref a] ∧ SqL K H a (ns.map V.int) ∧ ns.length ≤ 63 ∧ ∀ H', Q (.bl true) H'
structure Cals (P : Program) (w : World) (K : PySem.W.Frag) (mg : Str → Option Value) (base : Heap) : Prop where
  pool : C8.Cal P w K mg base 1 "_law_pool" (spPool K) []
  take : C8.Cal P w K mg base 2 "_law_take" (spTake 2) []
  words : C8.Cal P w K mg base 3 "_law_words" spWords []
  worth : C8.Cal P w K mg base 5 "_law_worth_of" (spWorth K) []
  cond : C8.Cal P w K mg base 6 "_law_condition" (spCond K) []
  operand : C8.Cal P w K mg base 5 "_law_operand" (spOperand K) []
  stands : C8.Cal P w K mg base 1 "_law_stands" (spStands K) []
  lholds : C8.Cal P w K mg base 3 "_law_holds" (spLHolds K 3) []
  same : C8.Cal P w K mg base 8 "_law_same" (spSame K 8) []
  wdue : C8.Cal P w K mg base 3 "_law_words_due" (spWdue K 3) []
  opv : C8.Cal P w K mg base 1 "operand_value" (spOpv K) []
  holds : C8.Cal P w K mg base 3 "holds" (spHolds K 3) []
  wof : C8.Cal P w K mg base 5 "words_of" (spWof K 3) []
section
variable {P : Program} {w : World} {K : PySem.W.Frag} {mg : Str → Option Value} {base : Heap}
abbrev s_law : Stmt := topS 23
theorem sc_law : FnScope ["script", "pool", "names", "sure", "box", "found", "word", "kept", "asked", "k", "condition", "operand", "due", "pair"] ["script"] (defScope s_law) := ⟨rfl, rfl, rfl, by decide +kernel, rfl, by decide +kernel, by decide +kernel⟩
-- slots: 0:script 1:pool 2:names 3:sure 4:box 5:found(cell) 6:word 7:kept 8:asked 9:k 10:condition 11:operand 12:due 13:pair
theorem ok_law {f : Addr} {fd : FuncData} (F : Fun K "law" "law" s_law f fd) (T : Txt K mg) (C : Cals P w K mg base) :
    FnOk P w K mg base CX0 9 f fd ["script"] (spLaw K) := by
  obtain ⟨C_law_pool, C_law_take, C_law_words, C_law_worth_of, C_law_condition, C_law_operand, C_law_stands, C_law_holds, C_law_same, C_law_words_due, C_operand_value, C_holds, C_words_of⟩ := C
  refine F.ok sc_law (fun vs H Q E h => ?_) (fun cdv A outer s H vs Q E hr h => ?_)
  · obtain ⟨a, ns, rfl, _⟩ := h
    rfl
  obtain ⟨a, ns, rfl, hS, hlen, q⟩ := h
  have hu64 := hr.units
  refine ⟨_, (pss_cons (ps_set (i := 1) sc_law.nd rfl (Or.inl rfl) (C8.pe_c C_law_pool hr (by decide) rfl (pa_cons (pv 0) pa_nil)))
    (pss_cons (ps_set (i := 2) sc_law.nd rfl (Or.inl rfl) (C8.pe_c C_law_words hr (by decide) rfl (pa_cons (pv 1) (pa_cons (pe_op op_add pe_int (C8.pe_c C_law_take hr (by decide) rfl (pa_cons (pv 1) (pa_cons pe_int pa_nil)))) pa_nil))))
    (pss_cons (ps_set (i := 3) sc_law.nd rfl (Or.inl rfl) (C8.pe_c C_law_words hr (by decide) rfl (pa_cons (pv 1) (pa_cons (pe_op op_add pe_int (C8.pe_c C_law_take hr (by decide) rfl (pa_cons (pv 1) (pa_cons pe_int pa_nil)))) pa_nil))))
    (pss_cons (ps_set (i := 4) sc_law.nd rfl (Or.inl rfl) (pe_disp (pps_cons pe_str (pv 2) (pps_cons pe_str (pv 3) pps_nil)) (by rfl) (by rfl) (fun z => by cases z) (by decide)))
    (pss_cons (ps_set (i := 5) sc_law.nd rfl (Or.inr rfl) pe_dnewK)
    (pss_cons (ps_for PassesOwn.never rfl (pi_list (pv 3)) (pg_name (i := 6) sc_law.nd rfl (Or.inl rfl)) (pss_one (ps_dput (hu_of hr) (pv 5) (pv 6) (C8.pe_c C_law_worth_of hr (by decide) rfl (pa_cons (pv 1) (pa_cons (pv 2) pa_nil))) rfl)))
    (C8.pss_cut (ps_if (pt_cmpR op_eq (C8.pe_c C_law_take hr (by decide) rfl (pa_cons (pv 1) (pa_cons pe_int pa_nil))) pe_int (nomark _)) (pss_one (ps_dput (hu_of hr) (pv 5) (pe_ix ix_list (pv 3) (pe_op op_sub (pe_callB call_len_seq (by rfl) T.z_len (by decide +kernel) (pa_cons (pv 3) pa_nil)) pe_int) (fun _ _ => rfl)) (pe_dget (hu_of hr) (pv 5) (pe_ix ix_list (pv 3) pe_int (fun _ _ => rfl)) (fun _ _ => rfl)) rfl)) pss_nil)
    (pss_cons (ps_setLc (i := 7) (own := [("word", 6)]) (g := (gName 6)) (tt := tYes) (by rfl) sc_law.nd rfl rfl (sw_true rfl rfl rfl (by decide +kernel)) (pi_list (pe_callB cr_sortedS (by rfl) T.z_sorted (by decide +kernel) (pa_cons (pv 3) pa_nil))) (blkOk_by (N := ["script", "pool", "names", "sure", "box", "found", "word", "kept", "asked", "k", "condition", "operand", "due", "pair"]) (sc := defScope s_law) (by decide +kernel)) (fun _ _ _ _ _ => (pg_name (i := 6) sc_law.nd rfl (Or.inl rfl))) (fun _ _ _ _ _ => pts_nil) (fun _ _ _ _ _ => (pe_tup (pa_cons (pv 6) (pa_cons (pe_dget (hu_of hr) (pv 5) (pv 6) (fun _ _ => rfl)) pa_nil)))))
    (pss_cons (ps_set (i := 8) sc_law.nd rfl (Or.inl rfl) (pe_lst pa_nil))
    (pss_cons (ps_for PassesOwn.never rfl (pi_range1 (by rfl) T.z_range (pa_cons pe_int pa_nil)) (pg_name (i := 9) sc_law.nd rfl (Or.inl rfl)) (pss_cons (ps_set (i := 10) sc_law.nd rfl (Or.inl rfl) (C8.pe_c C_law_condition hr (by decide) rfl (pa_cons (pv 1) (pa_cons (pv 4) pa_nil))))
    (C8.pss_cut (ps_if (pt_cmpR op_eq (C8.pe_c C_law_take hr (by decide) rfl (pa_cons (pv 1) (pa_cons pe_int pa_nil))) pe_int (nomark _)) (pss_one (ps_set (i := 10) sc_law.nd rfl (Or.inl rfl) (pe_tup (pa_cons pe_str (pa_cons (pv 10) pa_nil))))) pss_nil)
    (pss_cons (ps_expr (pe_bm PySem.F.plainAttrs_list PySem.F.slot_list_append PySem.F.type_list_append mt_append (pv 8) (pa_cons (pe_tup (pa_cons (pv 10) (pa_cons (C8.pe_c C_law_holds hr (by decide) rfl (pa_cons (pv 10) (pa_cons (pv 5) pa_nil))) pa_nil))) pa_nil)))
    (pss_cons (ps_set (i := 11) sc_law.nd rfl (Or.inl rfl) (C8.pe_c C_law_operand hr (by decide) rfl (pa_cons (pv 1) (pa_cons (pv 4) pa_nil))))
    (pss_cons (ps_set (i := 12) sc_law.nd rfl (Or.inl rfl) (C8.pe_c C_law_stands hr (by decide) rfl (pa_cons (pv 11) (pa_cons (pv 5) pa_nil))))
    (C8.pss_cut (ps_if (pt_cmpR (op_eqD hu64) (pv 12) (pe_tup (pa_cons pe_str pa_nil)) (nomark _)) (pss_one (ps_set (i := 12) sc_law.nd rfl (Or.inl rfl) pe_non)) pss_nil)
    (pss_cons (ps_if (pt_not (pt_val (C8.pe_c C_law_same hr (by decide) rfl (pa_cons (C8.pe_c C_operand_value hr (by decide) rfl (pa_cons (pv 11) (pa_cons (pv 5) pa_nil))) (pa_cons (pv 12) pa_nil))))) (pss_one (ps_ret pe_bl)) pss_nil)
    (pss_one (ps_if (pt_not (pt_val (C8.pe_c C_law_same hr (by decide) rfl (pa_cons (C8.pe_c C_words_of hr (by decide) rfl (pa_cons (pv 10) pa_nil)) (pa_cons (C8.pe_c C_law_words_due hr (by decide) rfl (pa_cons (pv 10) pa_nil)) pa_nil))))) (pss_one (ps_ret pe_bl)) pss_nil))))))))))
    (pss_cons (ps_for PassesOwn.never rfl (pi_range1 (by rfl) T.z_range (pa_cons pe_int pa_nil)) (pg_name (i := 9) sc_law.nd rfl (Or.inl rfl)) (pss_one (ps_for PassesOwn.never rfl (pi_list (pv 8)) (pg_name (i := 13) sc_law.nd rfl (Or.inl rfl)) (pss_cons (ps_if (pt_not (pt_val (C8.pe_c C_law_same hr (by decide) rfl (pa_cons (C8.pe_c C_holds hr (by decide) rfl (pa_cons (pe_ix ix_tup (pv 13) pe_int (fun _ _ => rfl)) (pa_cons (pv 5) pa_nil))) (pa_cons (pe_ix ix_tup (pv 13) pe_int (fun _ _ => rfl)) pa_nil))))) (pss_one (ps_ret pe_bl)) pss_nil)
    (pss_one (ps_if (PW.pt (pw_and (pt_cmpR op_ne (pe_ix ix_tup (pe_ix ix_tup (pv 13) pe_int (fun _ _ => rfl)) pe_int (fun _ _ => rfl)) pe_str (nomark _)) (pw_and1 (pt_not (pt_val (C8.pe_c C_law_same hr (by decide) rfl (pa_cons (C8.pe_c C_holds hr (by decide) rfl (pa_cons (pe_tup (pa_cons pe_str (pa_cons (pe_ix ix_tup (pv 13) pe_int (fun _ _ => rfl)) pa_nil))) (pa_cons (pv 5) pa_nil))) (pa_cons (pe_not (pe_ix ix_tup (pv 13) pe_int (fun _ _ => rfl))) pa_nil)))))))) (pss_one (ps_ret pe_bl)) pss_nil))))))
    (pss_one (ps_ret (C8.pe_c C_law_same hr (by decide) rfl (pa_cons (pe_lc (own := [("word", 6)]) (g := (gName 6)) (tt := tYes) (by rfl) sc_law.nd (pi_list (pe_callB (call_sortedD (by rfl)) (by rfl) T.z_sorted (by decide +kernel) (pa_cons (pv 5) pa_nil))) (blkOk_by (N := ["script", "pool", "names", "sure", "box", "found", "word", "kept", "asked", "k", "condition", "operand", "due", "pair"]) (sc := defScope s_law) (by decide +kernel)) (fun _ _ _ _ _ => (pg_name (i := 6) sc_law.nd rfl (Or.inl rfl))) (fun _ _ _ _ _ => pts_nil) (fun _ _ _ _ _ => (pe_tup (pa_cons (pv 6) (pa_cons (pe_dget (hu_of hr) (pv 5) (pv 6) (fun _ _ => rfl)) pa_nil))))) (pa_cons (pv 7) pa_nil)))))))))))))))), ?_⟩
  have two : ∀ x y : V, [x, y].length ≤ sizeLine := fun x y => small (by show 2 ≤ _; decide)
  refine ⟨_, rfl, a, ns, rfl, hS, hlen, fun H0 l c s0 hl0 P0 => ?_⟩
  -- names
  refine ⟨_, rfl, vTake rfl P0 (by decide) (by decide) fun d1 H1 d10 d11 x1 => ?_⟩
  obtain ⟨m1, rfl⟩ : ∃ m : Nat, d1 = m := ⟨d1.toNat, by omega⟩
  refine ⟨_, _, rfl, rfl, l, c, 1 + m1, by rw [Int.natCast_add]; rfl, x1.pool, by omega, fun H2 pn names x2 hpn h2 hl2 hnd2 hw2 => ?_⟩
  have N : Nm H2 l pn names := ⟨h2, (x1.pool.ne hpn).1, by omega, by omega, fun x hx => (hw2 x hx).1⟩
  have x12 := x1.trans x2
  -- sure
  refine ⟨_, rfl, vTake rfl x2.pool (by decide) (by decide) fun d3 H3 d30 d31 x3 => ?_⟩
  obtain ⟨m3, rfl⟩ : ∃ m : Nat, d3 = m := ⟨d3.toNat, by omega⟩
  refine ⟨_, _, rfl, rfl, l, c, 1 + m3, by rw [Int.natCast_add]; rfl, x3.pool, by omega, fun H4 ps sure x4 hps h4 hl4 hnd4 hw4 => ?_⟩
  have S : Nm H4 l ps sure := ⟨h4, (x3.pool.ne hps).1, by omega, by omega, fun x hx => (hw4 x hx).1⟩
  have N4 : Nm H4 l pn names := N.ext (x3.trans x4)
  have P4 := x4.pool
  have hsl3 : sure.length ≤ 3 := by omega
  -- box
  refine fun bx hbx => ⟨_, rfl, _, rfl, upd_same, [(Sum.inr "names", .ref pn), (Sum.inr "sure", .ref ps)], rfl, by show 2 ≤ 15; decide, ?_⟩
  rw [merge2 (show (Sum.inr ("names" : Str) : Key) ≠ Sum.inr ("sure" : Str) by decide +kernel), upd_upd]
  have x5 : Ext l c H4 (upd H4 bx (.dK [(Sum.inr "names", .ref pn), (Sum.inr "sure", .ref ps)])) := (Ext.refl P4).upd P4 hbx
  have B : Box (upd H4 bx (.dK [(Sum.inr "names", .ref pn), (Sum.inr "sure", .ref ps)])) l bx names sure := ⟨pn, ps, upd_same, (P4.ne hbx).1, N4.ext x5, S.ext x5⟩
  have N5 := N4.ext x5
  have S5 := S.ext x5
  generalize upd H4 bx (.dK [(Sum.inr "names", .ref pn), (Sum.inr "sure", .ref ps)]) = HB at x5 B N5 S5
  have PB := x5.pool
  -- found = {}
  refine fun fd hfd => ?_
  have nfd : fd ≠ l := (PB.ne hfd).1
  refine ⟨_, rfl, ps, rfl, ⟨_, SqL.of ((S5.ext ((Ext.refl PB).upd PB hfd)).at_)⟩, for_list (K := K) (a := ps) (xs := sure.map V.str) (fun i σ H' => i ≤ sure.length ∧ ∃ (wv : Option V) (tm : Str → Tm), σ = [some (.ref a), some (.ref l), some (.ref pn), some (.ref ps), some (.ref bx), some (.ref fd), wv, none, none, none, none, none, none, none] ∧ Ext l c HB H' ∧ Fnd K H' fd (sure.take i) tm) ?_ ?_ ?_ ?_⟩
  · exact ⟨Nat.zero_le _, none, fun _ => .atm (.int 0), rfl, (Ext.refl PB).upd PB hfd, [], upd_same, rfl, fun _ h => nomatch h⟩
  · rintro i σ H' _ ⟨_, wv, tm, rfl, x, _⟩
    exact SqL.of (S5.ext x).at_
  · rintro i v σ H' hi ⟨_, wv, tm, rfl, x, F⟩
    have hi2 : i < sure.length := by
      have := (List.getElem?_eq_some_iff.mp hi).1
      rw [List.length_map] at this
      exact this
    rw [List.getElem?_map, List.getElem?_eq_getElem hi2] at hi
    cases hi
    refine ⟨_, rfl, _, rfl, l, c, pn, names, rfl, x.pool, N5.ext x, fun v t H6 x6 dv wv => ?_⟩
    obtain ⟨kvs, hk, hkeys, hget⟩ := F.ext x.pool x6
    have nk : sure[i] ∉ sure.take i := fun m => by
      obtain ⟨j, hj, e⟩ := List.mem_take_iff_getElem.mp m
      have hj2 : j < i := by omega
      exact (List.pairwise_iff_getElem.mp hnd4 j i (by omega) hi2 hj2) e
    have vn : valV kvs (Sum.inr sure[i]) = none := by
      cases e : valV kvs (Sum.inr sure[i]) with
      | none => rfl
      | some z =>
        have m := valV_in e
        rw [hkeys] at m
        obtain ⟨y, hy, ey⟩ := List.mem_map.mp m
        exact absurd (by rw [← Sum.inr.inj ey]; exact hy) nk
    have kl : kvs.length = i := by
      have := congrArg List.length hkeys
      rw [List.length_map, List.length_map, List.length_take] at this
      omega
    refine ⟨_, rfl, _, rfl, fd, _, rfl, DPut.k (k := Sum.inr sure[i]) hk (smallL (by omega)), hi2, _, setT tm sure[i] t, rfl, (x.trans x6).upd PB hfd, kvs ++ [(Sum.inr sure[i], v)], ?_, ?_, ?_⟩
    · rw [upd_same, putK_new _ vn]
    · rw [List.map_append, hkeys, List.take_add_one, List.getElem?_eq_getElem hi2, List.map_append]
      rfl
    · intro y hy
      rw [List.take_add_one, List.getElem?_eq_getElem hi2] at hy
      have tup : ∀ {z : V} {d : PyData}, Dt K H6 z d → Dt K (upd H6 fd (.dK (putK kvs (Sum.inr sure[i]) v))) z d := fun {z d} h => Dt.mono (fun b xs hb => seqT_updK hb hk) _ _ h
      by_cases e : y = sure[i]
      · subst e
        refine ⟨v, by rw [valV_snoc _ _ _ _ vn, if_pos rfl], ?_, ?_⟩
        · unfold setT; rw [if_pos rfl]; exact tup dv
        · unfold setT; rw [if_pos rfl]; exact wv
      · rcases List.mem_append.mp hy with hy | hy
        · obtain ⟨z, g, dz, wz⟩ := hget y hy
          refine ⟨z, by rw [valV_snoc _ _ _ _ vn, if_neg (fun q => e (Sum.inr.inj q))]; exact g, ?_, ?_⟩
          · unfold setT; rw [if_neg e]; exact tup dz
          · unfold setT; rw [if_neg e]; exact wz
        · exact absurd (List.mem_singleton.mp hy) e
  rintro σ H7 ⟨_, wv, tm0, rfl, x7, F7⟩
  rw [List.length_map, List.take_of_length_le (Nat.le_refl _)] at F7
  have s00 : 0 < sure.length := by omega
  have g0 : (sure.map V.str)[0]? = some (.str sure[0]) := by rw [List.getElem?_map, List.getElem?_eq_getElem s00]; rfl
  have gl : (sure.map V.str)[sure.length - 1]? = some (.str (sure[sure.length - 1]'(by omega))) := by rw [List.getElem?_map, List.getElem?_eq_getElem (by omega)]; rfl
  -- found[sure[len(sure) - 1]] = found[sure[0]]
  refine ⟨fun σ' H' => ∃ (tm : Str → Tm), σ' = [some (.ref a), some (.ref l), some (.ref pn), some (.ref ps), some (.ref bx), some (.ref fd), wv, none, none, none, none, none, none, none] ∧ Ext l c HB H' ∧ Fnd K H' fd sure tm, ?_, ?_⟩
  · refine vTake rfl x7.pool (by decide) (by decide) fun d5 H8 d50 d51 x8 => ⟨rfl, _, rfl, ite2 (fun _ => ?_) (fun _ => ⟨tm0, rfl, x7.trans x8, F7.ext x7.pool x8⟩)⟩
    have F8 := F7.ext x7.pool x8
    have S8 := S5.ext (x7.trans x8)
    obtain ⟨v0, gv0, dv0, wv0⟩ := F8.get (List.getElem_mem s00)
    obtain ⟨kvs, hk, hkeys, hget⟩ := F8
    have kl : kvs.length = sure.length := by
      have := congrArg List.length hkeys
      rw [List.length_map, List.length_map] at this
      exact this
    refine ⟨_, rfl, _, rfl, ps, _, _, _, rfl, rfl, SqL.of S8.at_, at_of (j := 0) rfl g0, fd, v0, rfl, gv0, _, rfl, _, rfl, _, rfl, ps, _, rfl, .inl (SqL.of S8.at_), _, _, rfl, rfl, ps, _, _, _, rfl, rfl, SqL.of S8.at_, at_of (j := sure.length - 1) (by rw [List.length_map]; omega) gl, fd, _, rfl, DPut.k (k := Sum.inr _) hk (smallL (by omega)), ?_⟩
    refine ⟨setT tm0 (sure[sure.length - 1]'(by omega)) (tm0 sure[0]), rfl, (x7.trans x8).upd PB hfd, _, upd_same, ?_, fun y hy => ?_⟩
    · obtain ⟨z, gz, _⟩ := hget (sure[sure.length - 1]'(by omega)) (List.getElem_mem (by omega))
      rw [Fnd.keys (by rw [gz]; rfl)]
      exact hkeys
    · rw [valV_put]
      have tup : ∀ {z : V} {d : PyData} {kv : List (Key × V)}, Dt K H8 z d → Dt K (upd H8 fd (.dK kv)) z d := fun {z d kv} h => Dt.mono (fun b xs hb => seqT_updK hb hk) _ _ h
      by_cases e : y = sure[sure.length - 1]'(by omega)
      · refine ⟨v0, by rw [if_pos (by rw [e])], ?_, ?_⟩
        · unfold setT; rw [if_pos e]; exact tup dv0
        · unfold setT; rw [if_pos e]; exact wv0
      · obtain ⟨z, gz, dz, wz⟩ := hget y hy
        refine ⟨z, by rw [if_neg (fun q => e (Sum.inr.inj q))]; exact gz, ?_, ?_⟩
        · unfold setT; rw [if_neg e]; exact tup dz
        · unfold setT; rw [if_neg e]; exact wz
  rintro σ' HC ⟨tm, rfl, xC, FC⟩
  have PC := xC.pool
  have SC := S5.ext xC
  -- kept
  refine ⟨_, rfl, ps, sure, rfl, SqL.of SC.at_, by omega, fun ys sp hperm hsort hsp => ?_⟩
  have xD : Ext l c HC (upd HC sp (.lst (ys.map V.str))) := (Ext.refl PC).upd PC hsp
  have FD := FC.ext PC xD
  have PD := xD.pool
  have hyl : ys.length = sure.length := hperm.length_eq
  refine ⟨sp, rfl, ⟨_, SqL.of upd_same⟩, fun D hD => lc_list (K := K) (a := sp) (xs := ys.map V.str) (fun i H' => i ≤ ys.length ∧ ∃ vs : List V, Ext l c (upd HC sp (.lst (ys.map V.str))) H' ∧ H' D = some (.lst vs) ∧ DtAll K H' vs ((ys.take i).map (kd tm))) ?_ ?_ ?_ ?_⟩
  · exact ⟨Nat.zero_le _, [], (Ext.refl PD).upd PD hD, upd_same, .nil⟩
  · rintro i H' _ ⟨_, vs, x, _⟩
    exact SqL.of (x.keep _ _ (PC.ne hsp).1 upd_same)
  · rintro i v H' hi ⟨_, vs, x, hd, da⟩
    have hi2 : i < ys.length := by
      have := (List.getElem?_eq_some_iff.mp hi).1
      rw [List.length_map] at this
      exact this
    rw [List.getElem?_map, List.getElem?_eq_getElem hi2] at hi
    cases hi
    obtain ⟨v, gv, dv, _⟩ := (FD.ext PD x).get (hperm.mem_iff.mp (List.getElem_mem hi2))
    refine ⟨rfl, yes_ ⟨_, rfl, _, rfl, _, rfl, fd, v, rfl, gv, two _ _, fun t ht => ?_⟩⟩
    obtain ⟨h1, h2⟩ := snoc_data da hd ht (Dt.mk2 ht (.str ys[i]) dv)
    refine ⟨vs, h1, ?_, hi2, vs ++ [.ref t], (x.new PD ht).upd PD hD, upd_same, ?_⟩
    · have := da.length
      rw [List.length_map, List.length_take] at this
      exact smallL (by omega)
    · rw [List.take_add_one, List.getElem?_eq_getElem hi2, List.map_append]
      exact h2
  rintro HK ⟨_, kvs', xK0, hDK, daK⟩
  rw [List.length_map, List.take_of_length_le (Nat.le_refl _)] at daK
  have xK : Ext l c HB HK := (xC.trans xD).trans xK0
  have PK_ := xK.pool
  have FK := FD.ext PD xK0
  have BK := B.ext xK
  have nD : D ≠ l := (PD.ne hD).1
  -- asked
  refine ⟨Nat.zero_le _, fun ak hak => ?_⟩
  have nak : ak ≠ l := (PK_.ne hak).1
  refine ⟨_, rfl, by decide, by decide, for_range (lo := 0) (n := 8) (fun i σ H' => ∃ (kv cv ov dv : Option V) (vs : List V) (cns : List Cn), σ = [some (.ref a), some (.ref l), some (.ref pn), some (.ref ps), some (.ref bx), some (.ref fd), wv, some (.ref D), some (.ref ak), kv, cv, ov, dv, none] ∧ Ext l c HK H' ∧ H' ak = some (.lst vs) ∧ DtAll K H' vs (cns.map (cd tm)) ∧ cns.length = i ∧ ∀ cn ∈ cns, cn.Ok sure ∧ cn.W) ?_ ?_ ?_⟩
  · exact ⟨none, none, none, none, [], [], rfl, (Ext.refl PK_).upd PK_ hak, upd_same, .nil, rfl, fun _ h => nomatch h⟩
  · rintro i σ H' hi ⟨kv, cv, ov, dv, vs, cns, rfl, x, hask, da, hcl, hcw⟩
    have lvs : vs.length = i := by rw [da.length, List.length_map, hcl]
    refine ⟨_, rfl, _, rfl, l, c, bx, names, sure, rfl, x.pool, BK.ext x, fun v0 c0 H1 x1 dv0 wc0 ok0 => ?_⟩
    have hask1 := x1.keep _ _ nak hask
    have da1 := da.ext x.pool x1
    have y1 := x.trans x1
    refine ⟨fun σ' H'' => ∃ (v : V) (cn : Cn), σ' = [some (.ref a), some (.ref l), some (.ref pn), some (.ref ps), some (.ref bx), some (.ref fd), wv, some (.ref D), some (.ref ak), some (.int (0 + (i : Int))), some v, ov, dv, none] ∧ Ext l c H1 H'' ∧ Dt K H'' v cn.d ∧ cn.W ∧ cn.Ok sure, ?_, ?_⟩
    · refine vTake rfl x1.pool (by decide) (by decide) fun e H2 e0 e1 x2 => ⟨rfl, _, rfl, ite2 (fun _ => ?_) (fun _ => ⟨v0, .pl c0, rfl, x2, dv0.ext x1.pool x2, wc0, ok0⟩)⟩
      refine ⟨_, rfl, two _ _, fun t ht => ?_⟩
      exact ⟨_, .no c0, rfl, x2.new x1.pool ht, Dt.mk2 ht (.str _) (dv0.ext x1.pool x2), wc0, ok0⟩
    rintro σ' H2 ⟨v, cn, rfl, x2, dcn, wcn, okcn⟩
    have y2 := y1.trans x2
    have hask2 := x2.keep _ _ nak hask1
    have da2 := da1.ext x1.pool x2
    -- asked.append(..)
    refine ⟨_, rfl, .inl ⟨rfl, _, SqL.of hask2⟩, _, rfl, _, rfl, _, rfl, v, fd, cn, sure, tm, rfl, dcn, FK.ext PK_ y2, okcn, wcn, .inl (Nat.le_refl 3), fun H3 s3 => ⟨two _ _, fun t ht => ?_⟩⟩
    obtain ⟨hask4, da4⟩ := snoc_data (da2.same s3) (s3 _ _ hask2) ht (Dt.mk2 ht (dcn.same s3) (.bl (cn.holds tm)))
    refine ⟨ak, _, _, rfl, rfl, hask4, smallL (by omega), ?_⟩
    have y5 : Ext l c HK (upd (upd H3 t (.tup [v, .bl (cn.holds tm)])) ak (.lst (vs ++ [.ref t]))) := ((y2.same s3).new PK_ ht).upd PK_ hak
    have dcn5 : Dt K (upd (upd H3 t (.tup [v, .bl (cn.holds tm)])) ak (.lst (vs ++ [.ref t]))) v cn.d := Dt.mono (fun _ _ z => seqT_upd (Same.seqT (same_new ht) (Same.seqT s3 z)) hask4) _ _ dcn
    have hask5 : (upd (upd H3 t (.tup [v, .bl (cn.holds tm)])) ak (.lst (vs ++ [.ref t]))) ak = some (.lst (vs ++ [.ref t])) := upd_same
    generalize upd (upd H3 t (.tup [v, .bl (cn.holds tm)])) ak (.lst (vs ++ [.ref t])) = H5 at y5 dcn5 hask5 da4
    -- operand, due
    refine ⟨_, rfl, _, rfl, l, c, bx, names, sure, rfl, y5.pool, BK.ext y5, fun vo op H6 x6 dop wop okop => ?_⟩
    have y6 := y5.trans x6
    refine ⟨_, rfl, _, rfl, vo, fd, op, sure, tm, rfl, dop, FK.ext PK_ y6, okop, fun vd H7 s7 e7 n7 => ?_⟩
    have y7 := y6.same s7
    refine ⟨fun σ' H'' => ∃ (vd : V) (d : PyData), σ' = [some (.ref a), some (.ref l), some (.ref pn), some (.ref ps), some (.ref bx), some (.ref fd), wv, some (.ref D), some (.ref ak), some (.int (0 + (i : Int))), some v, some vo, some vd, none] ∧ Same H7 H'' ∧ Dt K H'' vd d ∧ d = (match op.val tm with | some t => t.d | none => .none), ?_, ?_⟩
    · refine ⟨_, rfl, small (by show 1 ≤ _; decide), fun t ht => ?_⟩
      have dn : Dt K (upd H7 t (.tup [.str "nothing"])) (.ref t) NOTH := Dt.mk1 ht (.str _)
      cases ev : op.val tm with
      | some t1 =>
        have d1 := (e7 t1 ev).new (o := .tup [.str "nothing"]) ht
        refine ⟨_, _, d1.dp, dn.dp, Tm.shaped (Op.valW wop okop FK.W ev), noth_shaped, _, rfl, ?_⟩
        rw [tm_noth]
        exact iteF ⟨_, _, rfl, same_new ht, d1, rfl⟩
      | none =>
        have d1 := (n7 ev).new (o := .tup [.str "nothing"]) ht
        refine ⟨_, _, d1.dp, dn.dp, noth_shaped, noth_shaped, _, rfl, ?_⟩
        rw [noth_noth]
        exact iteT ⟨_, _, rfl, same_new ht, .non, rfl⟩
    rintro σ' H8 ⟨vd2, d8, rfl, s8, dvd, ed⟩
    have y8 := y7.same s8
    have dop8 := (dop.same s7).same s8
    -- operand_value
    refine ⟨_, rfl, _, rfl, vo, fd, op, sure, tm, rfl, dop8, FK.ext PK_ y8, okop, fun v9 H9 s9 e9 n9 => ?_⟩
    have d9 : Dt K H9 v9 d8 := by
      cases ev : op.val tm with
      | some t1 => rw [ev] at ed; rw [ed]; exact e9 t1 ev
      | none => rw [ev] at ed; rw [ed, n9 ev]; exact .non
    have dep8 : d8.depth < 8 ∧ slim d8 = true := by
      cases ev : op.val tm with
      | some t1 =>
        rw [ev] at ed
        rw [ed]
        exact ⟨by have := t1.dep; show t1.d.depth < 8; omega, Tm.slim (Op.valW wop okop FK.W ev)⟩
      | none => rw [ev] at ed; rw [ed]; exact ⟨by decide, by unfold slim; rfl⟩
    refine ⟨_, rfl, v9, vd2, d8, rfl, d9.dp, (dvd.same s9).dp, dep8.1, dep8.2, fun H10 s10 => ⟨_, rfl, iteF ?_⟩⟩
    have y10 := (y8.same s9).same s10
    have s510 : ∀ b xs, SqT K H5 b xs → SqT K H10 b xs := fun b xs z => Same.seqT s10 (Same.seqT s9 (Same.seqT s8 (Same.seqT s7 (x6.seqT y5.pool z))))
    have dcn10 : Dt K H10 v cn.d := Dt.mono s510 _ _ dcn5
    -- words_of
    refine ⟨_, rfl, v, cn, sure, rfl, dcn10, okcn, .inl (Nat.le_refl 3), fun H11 p1 s11 n11 l11 => ?_⟩
    refine ⟨_, rfl, v, cn, sure, rfl, dcn10.same s11, okcn, .inl (Nat.le_refl 3), fun H12 p2 s12 n12 l12 => ?_⟩
    have wl := cn.wlen
    refine ⟨.ref p1, .ref p2, .list (cn.words.map PyData.str), rfl, strs_dp (s12 _ _ l11), strs_dp l12, ?_, slim_list (by rw [List.length_map]; omega) (slim_all fun d hd => ?_), fun H13 s13 => ⟨_, rfl, iteF ?_⟩⟩
    · have : PyData.depthAll (cn.words.map PyData.str) ≤ 0 := depth_all fun d hd => by
        obtain ⟨x, _, rfl⟩ := List.mem_map.mp hd
        exact Nat.le_refl 0
      show PyData.depthAll (cn.words.map PyData.str) + 1 < 8
      omega
    · obtain ⟨x, _, rfl⟩ := List.mem_map.mp hd
      exact slim_str x
    have s1013 := (s11.trans s12).trans s13
    have hask13 : H13 ak = some (.lst (vs ++ [.ref t])) := s1013 _ _ (s10 _ _ (s9 _ _ (s8 _ _ (s7 _ _ (x6.keep _ _ nak hask5)))))
    refine ⟨_, _, _, _, vs ++ [.ref t], cns ++ [cn], rfl, y10.same s1013, hask13, ?_, by rw [List.length_append, hcl]; rfl, fun z hz => ?_⟩
    · rw [List.map_append]
      exact DtAll.mono (fun b xs z => Same.seqT s1013 (s510 b xs z)) _ _ da4
    · rcases List.mem_append.mp hz with h | h
      · exact hcw z h
      · rw [List.mem_singleton.mp h]; exact ⟨okcn, wcn⟩
  rintro σ HL ⟨kv, cv, ov, dv, vs, cns, rfl, xL, hask, daL, hcl, hcw⟩
  have xHL : Ext l c HK HL := xL
  have FL := FK.ext PK_ xL
  have hDL : HL D = some (.lst kvs') := xL.keep _ _ nD hDK
  have daL2 := daK.ext PK_ xL
  have nvs : vs.length = 8 := by rw [daL.length, List.length_map, hcl]
  refine ⟨_, rfl, by decide, by decide, for_range (lo := 0) (n := 2) (fun i σ H' => ∃ (kv pv : Option V), σ = [some (.ref a), some (.ref l), some (.ref pn), some (.ref ps), some (.ref bx), some (.ref fd), wv, some (.ref D), some (.ref ak), kv, cv, ov, dv, pv] ∧ Same HL H') ?_ ?_ ?_⟩
  · exact ⟨kv, none, rfl, Same.refl _⟩
  · rintro i σ H' hi ⟨kv2, pv2, rfl, sm⟩
    refine ⟨_, rfl, ak, rfl, ⟨_, SqL.of (sm _ _ hask)⟩, for_list (K := K) (a := ak) (xs := vs) (fun j σ H' => ∃ (pv : Option V), σ = [some (.ref a), some (.ref l), some (.ref pn), some (.ref ps), some (.ref bx), some (.ref fd), wv, some (.ref D), some (.ref ak), some (.int (0 + (i : Int))), cv, ov, dv, pv] ∧ Same HL H') ⟨pv2, rfl, sm⟩ ?_ ?_ ?_⟩
    · rintro j σ H'' _ ⟨pv3, rfl, sm3⟩
      exact SqL.of (sm3 _ _ hask)
    · rintro j v σ H3 hj ⟨pv3, rfl, s3⟩
      obtain ⟨d, hd, dv3⟩ := daL.get hj
      have hj2 : j < cns.length := by rw [hcl, ← nvs]; exact (List.getElem?_eq_some_iff.mp hj).1
      rw [List.getElem?_map, List.getElem?_eq_getElem hj2] at hd
      have hd2 : cd tm cns[j] = d := Option.some.inj hd
      subst hd2
      obtain ⟨okc, wc⟩ := hcw _ (List.getElem_mem hj2)
      generalize cns[j] = cn at dv3 okc wc
      obtain ⟨p, x, y, rfl, hs, h1, h2⟩ := Dt.t2 (dv3.same s3)
      obtain rfl : y = .bl (cn.holds tm) := by cases h2; rfl
      have slb : ∀ b : Bool, (PyData.bool b).depth < 8 ∧ slim (.bool b) = true := fun b => ⟨by show 0 < 8; decide, by unfold slim; rfl⟩
      refine vTx rfl hs rfl ⟨_, rfl, x, fd, cn, sure, tm, rfl, h1, FL.same s3, okc, .inl (Nat.le_refl 3), fun H4 s4 => ?_⟩
      refine vTx rfl (Same.seqT s4 hs) rfl ⟨_, _, .bool (cn.holds tm), rfl, .bl _, .bl _, (slb _).1, (slb _).2, fun H5 s5 => ⟨_, rfl, iteF ?_⟩⟩
      have s45 := s4.trans s5
      have hs5 := Same.seqT s45 hs
      cases cn with
      | no c =>
        obtain ⟨p2, x2, y2, rfl, hs2, k1, k2⟩ := Dt.t2 (h1.same s45)
        obtain rfl := k1.s
        exact vTx rfl hs5 rfl ⟨p2, _, _, _, rfl, rfl, hs2, rfl, rfl, _, rfl, nF rfl (iteF ⟨_, rfl, s3.trans s45⟩)⟩
      | pl c =>
        have h1c : Dt K H5 x (.tuple (.str c.head :: c.parts.map Pt.d)) := by rw [← Cd.d_eq]; exact h1.same s45
        obtain ⟨p2, xs2, rfl, hs2, da2⟩ := Dt.tn h1c
        cases da2 with
        | cons k1 dr =>
        obtain rfl := k1.s
        refine vTx rfl hs5 rfl ⟨p2, _, _, _, rfl, rfl, hs2, atI_nat (j := 0) rfl, rfl, _, rfl, nT c.head_not ?_⟩
        refine vTx rfl hs5 rfl ⟨two _ _, fun t ht => ?_⟩
        have s6 := same_new (o := .tup [.str "not", .ref p2]) ht
        have dno : Dt K (upd H5 t (.tup [.str "not", .ref p2])) (.ref t) (Cn.d (.no c)) := Dt.mk2 ht (.str _) (h1.same s45)
        refine ⟨_, rfl, .ref t, fd, .no c, sure, tm, rfl, dno, FL.same ((s3.trans s45).trans s6), okc, .inl (Nat.le_refl 3), fun H7 s7 => ?_⟩
        refine vTx rfl (Same.seqT s7 (Same.seqT s6 hs5)) rfl ⟨_, rfl, _, _, .bool (!c.holds tm), rfl, .bl _, .bl _, (slb _).1, (slb _).2, fun H8 s8 => ⟨_, rfl, iteF ⟨_, rfl, ((s3.trans s45).trans s6).trans (s7.trans s8)⟩⟩⟩
    · rintro σ H3 ⟨pv3, rfl, s3⟩
      exact ⟨_, _, rfl, s3⟩
  · rintro σ HM ⟨kv2, pv2, rfl, sM⟩
    have FM := FL.same sM
    obtain ⟨kvs, hk, hkeys, hget⟩ := id FM
    refine ⟨_, rfl, fd, kvs, sure, rfl, .inl hk, hkeys, by omega, fun ys2 sp2 hperm2 hsort2 hsp2 => ?_⟩
    have eys : ys2 = ys := sorted_one hsort2 hsort (hperm2.trans hperm.symm)
    subst eys
    have sN := same_new (o := .lst (ys2.map V.str)) hsp2
    refine ⟨sp2, rfl, ⟨_, SqL.of upd_same⟩, fun D2 hD2 => lc_list (K := K) (a := sp2) (xs := ys2.map V.str) (fun i H' => i ≤ ys2.length ∧ ∃ vs : List V, Same (upd HM sp2 (.lst (ys2.map V.str))) H' ∧ H' D2 = some (.lst vs) ∧ DtAll K H' vs ((ys2.take i).map (kd tm))) ?_ ?_ ?_ ?_⟩
    · exact ⟨Nat.zero_le _, [], same_new hD2, upd_same, .nil⟩
    · rintro i H' _ ⟨_, vs, s, _⟩
      exact SqL.of (s _ _ upd_same)
    · rintro i v H' hi ⟨_, vs, s, hd, da⟩
      have hi2 : i < ys2.length := by
        have := (List.getElem?_eq_some_iff.mp hi).1
        rw [List.length_map] at this
        exact this
      rw [List.getElem?_map, List.getElem?_eq_getElem hi2] at hi
      cases hi
      obtain ⟨v, gv, dv, _⟩ := (FM.same (sN.trans s)).get (hperm2.mem_iff.mp (List.getElem_mem hi2))
      refine ⟨rfl, yes_ ⟨_, rfl, _, rfl, _, rfl, fd, v, rfl, gv, two _ _, fun t ht => ?_⟩⟩
      obtain ⟨h1, h2⟩ := snoc_data da hd ht (Dt.mk2 ht (.str ys2[i]) dv)
      refine ⟨vs, h1, ?_, hi2, vs ++ [.ref t], Same.upd (Same.upd s (s.free ht)) hD2, upd_same, ?_⟩
      · have := da.length
        rw [List.length_map, List.length_take] at this
        exact smallL (by omega)
      · rw [List.take_add_one, List.getElem?_eq_getElem hi2, List.map_append]
        exact h2
    · rintro HE ⟨_, vs2, sE, hdE, daE⟩
      rw [List.length_map, List.take_of_length_le (Nat.le_refl _)] at daE
      have sME := sN.trans sE
      have hDE : HE D = some (.lst kvs') := sME _ _ (sM _ _ hDL)
      have daE2 := daL2.same (sM.trans sME)
      refine ⟨_, rfl, .ref D2, .ref D, .list (ys2.map (kd tm)), rfl, .lst (SqL.of hdE) (DtAll.dp _ _ daE), .lst (SqL.of hDE) (DtAll.dp _ _ daE2), ?_, slim_list (by rw [List.length_map]; omega) (slim_all fun d hd => ?_), fun H' _ => q H'⟩
      · have : PyData.depthAll (ys2.map (kd tm)) ≤ 5 := depth_all fun d hd => by
          obtain ⟨x, _, rfl⟩ := List.mem_map.mp hd
          have := (tm x).dep
          show max 0 (max (tm x).d.depth 0) + 1 ≤ 5
          omega
        show PyData.depthAll (ys2.map (kd tm)) + 1 < 8
        omega
      · obtain ⟨x, hx, rfl⟩ := List.mem_map.mp hd
        refine slim_tup (Nat.le_of_ble_eq_true rfl) (slim_all fun d hd => ?_)
        rcases List.mem_cons.mp hd with e | e
        · rw [e]; exact slim_str _
        · rw [List.mem_singleton.mp e]
          exact Tm.slim (FM.W x (hperm2.mem_iff.mp hx))
end
end PK
namespace PK
open PySem L2
section
variable {P : Program} {w : World} {K : PySem.W.Frag} {mg : Str → Option Value} {base : Heap}
theorem none_ok {f : Addr} {fd : FuncData} {ps : List Str} {sp : Sp} {k : Nat} (no : ∀ vs H Q E, ¬ sp vs H Q E) : FnOk P w K mg base CX0 k f fd ps sp :=
  ⟨fun vs H Q E h => absurd h (no vs H Q E), fun A outer s H args us vs Q E _ _ _ _ h => absurd h (no vs H Q E)⟩
theorem cal_mk {x : Str} {f : Addr} {fd : FuncData} {ps : List Str} {sp : Sp} {k : Nat} (G : FnOk P w K mg base CX0 k f fd ps sp) (m : mg x = some (.ref f)) (kp : PySem.W.keepIn K (.ref f) = true) (b : Binds K fd ps []) : C8.Cal P w K mg base k x sp [] :=
  ⟨f, fd, ps, [], G, m, kp, b, .nil⟩
end
theorem all_mk {l : PySem.W.OpenLaw} {w : World} {K : PySem.W.Frag} {h : Heap} {mg : Str → Option Value} {fa f1 f2 f3 f4 f5 f6 f7 f8 f9 f10 f11 f12 f13 f14 f15 f16 f17 f18 f19 f20 : Addr} (X : K.In h) (G : h.Ns mainGlobals mg) (hfa : mg "law" = some (.ref fa))
    {od1 an1 od2 an2 od3 an3 od4 an4 od5 an5 od6 an6 od7 an7 od8 an8 od9 an9 od10 an10 od11 an11 od12 an12 od13 an13 od14 an14 od15 an15 od16 an16 od17 an17 od18 an18 od19 an19 od20 an20 : Option Addr} {sl1 sl2 sl3 sl4 sl5 sl6 sl7 sl8 sl9 sl10 sl11 sl12 sl13 sl14 sl15 sl16 sl17 sl18 sl19 sl20 : Array (Option Value)} {oc1 kV1 dc1 pm1 cd1 ct1 oc2 kV2 dc2 pm2 cd2 ct2 oc3 kV3 dc3 pm3 cd3 ct3 oc4 kV4 dc4 pm4 cd4 ct4 oc5 kV5 dc5 pm5 cd5 ct5 oc6 kV6 dc6 pm6 cd6 ct6 oc7 kV7 dc7 pm7 cd7 ct7 oc8 kV8 dc8 pm8 cd8 ct8 oc9 kV9 dc9 pm9 cd9 ct9 oc10 kV10 dc10 pm10 cd10 ct10 oc11 kV11 dc11 pm11 cd11 ct11 oc12 kV12 dc12 pm12 cd12 ct12 oc13 kV13 dc13 pm13 cd13 ct13 oc14 kV14 dc14 pm14 cd14 ct14 oc15 kV15 dc15 pm15 cd15 ct15 oc16 kV16 dc16 pm16 cd16 ct16 oc17 kV17 dc17 pm17 cd17 ct17 oc18 kV18 dc18 pm18 cd18 ct18 oc19 kV19 dc19 pm19 cd19 ct19 oc20 kV20 dc20 pm20 cd20 ct20 : Value}
    (a1 : PySem.W.nsIn K mainGlobals "operand_value" = some (some (.ref f1))) (l1 : K.lookup f1 = some ⟨oc1, od1, .func (PySem.W.fnOf "operand_value" "operand_value" (defArgs s_operand_value) (defBody s_operand_value) (defScope s_operand_value) .none kV1 dc1 pm1 an1 cd1 ct1), sl1⟩) (c1 : PySem.W.codeIn K cd1 "operand_value" = true) (k1 : PySem.W.keepIn K (.ref f1) = true)
    (a2 : PySem.W.nsIn K mainGlobals "holds" = some (some (.ref f2))) (l2 : K.lookup f2 = some ⟨oc2, od2, .func (PySem.W.fnOf "holds" "holds" (defArgs s_holds) (defBody s_holds) (defScope s_holds) .none kV2 dc2 pm2 an2 cd2 ct2), sl2⟩) (c2 : PySem.W.codeIn K cd2 "holds" = true) (k2 : PySem.W.keepIn K (.ref f2) = true)
    (a3 : PySem.W.nsIn K mainGlobals "_has_entry" = some (some (.ref f3))) (l3 : K.lookup f3 = some ⟨oc3, od3, .func (PySem.W.fnOf "_has_entry" "_has_entry" (defArgs s_has_entry) (defBody s_has_entry) (defScope s_has_entry) .none kV3 dc3 pm3 an3 cd3 ct3), sl3⟩) (c3 : PySem.W.codeIn K cd3 "_has_entry" = true) (k3 : PySem.W.keepIn K (.ref f3) = true)
    (a4 : PySem.W.nsIn K mainGlobals "operands_of" = some (some (.ref f4))) (l4 : K.lookup f4 = some ⟨oc4, od4, .func (PySem.W.fnOf "operands_of" "operands_of" (defArgs s_operands_of) (defBody s_operands_of) (defScope s_operands_of) .none kV4 dc4 pm4 an4 cd4 ct4), sl4⟩) (c4 : PySem.W.codeIn K cd4 "operands_of" = true) (k4 : PySem.W.keepIn K (.ref f4) = true)
    (a5 : PySem.W.nsIn K mainGlobals "unknown_operands" = some (some (.ref f5))) (l5 : K.lookup f5 = some ⟨oc5, od5, .func (PySem.W.fnOf "unknown_operands" "unknown_operands" (defArgs s_unknown_operands) (defBody s_unknown_operands) (defScope s_unknown_operands) .none kV5 dc5 pm5 an5 cd5 ct5), sl5⟩) (c5 : PySem.W.codeIn K cd5 "unknown_operands" = true) (k5 : PySem.W.keepIn K (.ref f5) = true)
    (a6 : PySem.W.nsIn K mainGlobals "words_of" = some (some (.ref f6))) (l6 : K.lookup f6 = some ⟨oc6, od6, .func (PySem.W.fnOf "words_of" "words_of" (defArgs s_words_of) (defBody s_words_of) (defScope s_words_of) .none kV6 dc6 pm6 an6 cd6 ct6), sl6⟩) (c6 : PySem.W.codeIn K cd6 "words_of" = true) (k6 : PySem.W.keepIn K (.ref f6) = true)
    (a7 : PySem.W.nsIn K mainGlobals "_law_pool" = some (some (.ref f7))) (l7 : K.lookup f7 = some ⟨oc7, od7, .func (PySem.W.fnOf "_law_pool" "_law_pool" (defArgs s_law_pool) (defBody s_law_pool) (defScope s_law_pool) .none kV7 dc7 pm7 an7 cd7 ct7), sl7⟩) (c7 : PySem.W.codeIn K cd7 "_law_pool" = true) (k7 : PySem.W.keepIn K (.ref f7) = true)
    (a8 : PySem.W.nsIn K mainGlobals "_law_take" = some (some (.ref f8))) (l8 : K.lookup f8 = some ⟨oc8, od8, .func (PySem.W.fnOf "_law_take" "_law_take" (defArgs s_law_take) (defBody s_law_take) (defScope s_law_take) .none kV8 dc8 pm8 an8 cd8 ct8), sl8⟩) (c8 : PySem.W.codeIn K cd8 "_law_take" = true) (k8 : PySem.W.keepIn K (.ref f8) = true)
    (a9 : PySem.W.nsIn K mainGlobals "_law_words" = some (some (.ref f9))) (l9 : K.lookup f9 = some ⟨oc9, od9, .func (PySem.W.fnOf "_law_words" "_law_words" (defArgs s_law_words) (defBody s_law_words) (defScope s_law_words) .none kV9 dc9 pm9 an9 cd9 ct9), sl9⟩) (c9 : PySem.W.codeIn K cd9 "_law_words" = true) (k9 : PySem.W.keepIn K (.ref f9) = true)
    (a10 : PySem.W.nsIn K mainGlobals "_law_number" = some (some (.ref f10))) (l10 : K.lookup f10 = some ⟨oc10, od10, .func (PySem.W.fnOf "_law_number" "_law_number" (defArgs s_law_number) (defBody s_law_number) (defScope s_law_number) .none kV10 dc10 pm10 an10 cd10 ct10), sl10⟩) (c10 : PySem.W.codeIn K cd10 "_law_number" = true) (k10 : PySem.W.keepIn K (.ref f10) = true)
    (a11 : PySem.W.nsIn K mainGlobals "_law_atom" = some (some (.ref f11))) (l11 : K.lookup f11 = some ⟨oc11, od11, .func (PySem.W.fnOf "_law_atom" "_law_atom" (defArgs s_law_atom) (defBody s_law_atom) (defScope s_law_atom) .none kV11 dc11 pm11 an11 cd11 ct11), sl11⟩) (c11 : PySem.W.codeIn K cd11 "_law_atom" = true) (k11 : PySem.W.keepIn K (.ref f11) = true)
    (a12 : PySem.W.nsIn K mainGlobals "_law_pick" = some (some (.ref f12))) (l12 : K.lookup f12 = some ⟨oc12, od12, .func (PySem.W.fnOf "_law_pick" "_law_pick" (defArgs s_law_pick) (defBody s_law_pick) (defScope s_law_pick) .none kV12 dc12 pm12 an12 cd12 ct12), sl12⟩) (c12 : PySem.W.codeIn K cd12 "_law_pick" = true) (k12 : PySem.W.keepIn K (.ref f12) = true)
    (a13 : PySem.W.nsIn K mainGlobals "_law_operand" = some (some (.ref f13))) (l13 : K.lookup f13 = some ⟨oc13, od13, .func (PySem.W.fnOf "_law_operand" "_law_operand" (defArgs s_law_operand) (defBody s_law_operand) (defScope s_law_operand) .none kV13 dc13 pm13 an13 cd13 ct13), sl13⟩) (c13 : PySem.W.codeIn K cd13 "_law_operand" = true) (k13 : PySem.W.keepIn K (.ref f13) = true)
    (a14 : PySem.W.nsIn K mainGlobals "_law_condition" = some (some (.ref f14))) (l14 : K.lookup f14 = some ⟨oc14, od14, .func (PySem.W.fnOf "_law_condition" "_law_condition" (defArgs s_law_condition) (defBody s_law_condition) (defScope s_law_condition) .none kV14 dc14 pm14 an14 cd14 ct14), sl14⟩) (c14 : PySem.W.codeIn K cd14 "_law_condition" = true) (k14 : PySem.W.keepIn K (.ref f14) = true)
    (a15 : PySem.W.nsIn K mainGlobals "_law_stands" = some (some (.ref f15))) (l15 : K.lookup f15 = some ⟨oc15, od15, .func (PySem.W.fnOf "_law_stands" "_law_stands" (defArgs s_law_stands) (defBody s_law_stands) (defScope s_law_stands) .none kV15 dc15 pm15 an15 cd15 ct15), sl15⟩) (c15 : PySem.W.codeIn K cd15 "_law_stands" = true) (k15 : PySem.W.keepIn K (.ref f15) = true)
    (a16 : PySem.W.nsIn K mainGlobals "_law_holds" = some (some (.ref f16))) (l16 : K.lookup f16 = some ⟨oc16, od16, .func (PySem.W.fnOf "_law_holds" "_law_holds" (defArgs s_law_holds) (defBody s_law_holds) (defScope s_law_holds) .none kV16 dc16 pm16 an16 cd16 ct16), sl16⟩) (c16 : PySem.W.codeIn K cd16 "_law_holds" = true) (k16 : PySem.W.keepIn K (.ref f16) = true)
    (a17 : PySem.W.nsIn K mainGlobals "_law_same" = some (some (.ref f17))) (l17 : K.lookup f17 = some ⟨oc17, od17, .func (PySem.W.fnOf "_law_same" "_law_same" (defArgs s_law_same) (defBody s_law_same) (defScope s_law_same) .none kV17 dc17 pm17 an17 cd17 ct17), sl17⟩) (c17 : PySem.W.codeIn K cd17 "_law_same" = true) (k17 : PySem.W.keepIn K (.ref f17) = true)
    (a18 : PySem.W.nsIn K mainGlobals "_law_worth_of" = some (some (.ref f18))) (l18 : K.lookup f18 = some ⟨oc18, od18, .func (PySem.W.fnOf "_law_worth_of" "_law_worth_of" (defArgs s_law_worth_of) (defBody s_law_worth_of) (defScope s_law_worth_of) .none kV18 dc18 pm18 an18 cd18 ct18), sl18⟩) (c18 : PySem.W.codeIn K cd18 "_law_worth_of" = true) (k18 : PySem.W.keepIn K (.ref f18) = true)
    (a19 : PySem.W.nsIn K mainGlobals "_law_words_due" = some (some (.ref f19))) (l19 : K.lookup f19 = some ⟨oc19, od19, .func (PySem.W.fnOf "_law_words_due" "_law_words_due" (defArgs s_law_words_due) (defBody s_law_words_due) (defScope s_law_words_due) .none kV19 dc19 pm19 an19 cd19 ct19), sl19⟩) (c19 : PySem.W.codeIn K cd19 "_law_words_due" = true) (k19 : PySem.W.keepIn K (.ref f19) = true)
    (a20 : PySem.W.nsIn K mainGlobals "law" = some (some (.ref f20))) (l20 : K.lookup f20 = some ⟨oc20, od20, .func (PySem.W.fnOf "law" "law" (defArgs s_law) (defBody s_law) (defScope s_law) .none kV20 dc20 pm20 an20 cd20 ct20), sl20⟩) (c20 : PySem.W.codeIn K cd20 "law" = true) (k20 : PySem.W.keepIn K (.ref f20) = true)
    (z_len : PySem.W.nsIn K mainGlobals "len" = some none) (z_int : PySem.W.nsIn K mainGlobals "int" = some none) (z_range : PySem.W.nsIn K mainGlobals "range" = some none) (z_min : PySem.W.nsIn K mainGlobals "min" = some none) (z_str : PySem.W.nsIn K mainGlobals "str" = some none) (z_tuple : PySem.W.nsIn K mainGlobals "tuple" = some none) (z_sorted : PySem.W.nsIn K mainGlobals "sorted" = some none) (z_isinstance : PySem.W.nsIn K mainGlobals "isinstance" = some none) (z_any : PySem.W.nsIn K mainGlobals "any" = some none) (z_all : PySem.W.nsIn K mainGlobals "all" = some none) (z_list : PySem.W.nsIn K mainGlobals "list" = some none) (z_bool : PySem.W.nsIn K mainGlobals "bool" = some none)
    {aC dH : Addr} {odC : Option Addr} {nC : Nat} {slC : Array (Option Value)} {t1 t2 t3 t4 t5 t6 t7 : Tok} {es : Array DictEntry} {nH : Nat}
    (aH : PySem.W.nsIn K mainGlobals "_HEADS" = some (some (.ref dH))) (lH : K.lookup dH = some ⟨.type "dict", none, .dict es nH, #[]⟩) (kH : PySem.W.KeysLit w.params es.toList) (sH : (dH == sysModules) = false)
    (h1 : PySem.W.nsIn K dH "integer" = some (some (.str "int" t4))) (h2 : PySem.W.nsIn K dH "name" = some (some (.str "name" t5))) (h3 : PySem.W.nsIn K dH "address" = some (some (.str "addr" t6))) (h4 : PySem.W.nsIn K dH "map" = some (some (.str "map" t7)))
    (h5 : PySem.W.nsIn K dH "equal" = some none) (h6 : PySem.W.nsIn K dH "less" = some none) (h7 : PySem.W.nsIn K dH "has" = some none)
    (aCm : PySem.W.nsIn K mainGlobals "_COMPARED" = some (some (.ref aC))) (lC : K.lookup aC = some ⟨.type "tuple", odC, .seq #[.str "int" t1, .str "name" t2, .str "addr" t3] nC, slC⟩) :
    ∃ fd : FuncData, (∀ (s : Shared) (v : Value), BindsTo s fd ⟨[v], []⟩ [("script", v)]) ∧ ∀ base : Heap, K.In base → base.Ns mainGlobals mg → FnOk l.prog w K mg base CX0 9 fa fd ["script"] (spLaw K) := by
  have e := hfa.symm.trans (PySem.W.mg_of X G a20)
  cases e
  have F1 := fun_mk (st := s_operand_value) l1 c1 k1
  have b1 := F1.binds (ps := ["operand", "bindings"]) fun _ _ _ _ _ _ us hl => match us, hl with | [_, _], _ => rfl
  have m1 := PySem.W.mg_of X G a1
  have F2 := fun_mk (st := s_holds) l2 c2 k2
  have b2 := F2.binds (ps := ["condition", "bindings"]) fun _ _ _ _ _ _ us hl => match us, hl with | [_, _], _ => rfl
  have m2 := PySem.W.mg_of X G a2
  have F3 := fun_mk (st := s_has_entry) l3 c3 k3
  have b3 := F3.binds (ps := ["mapping", "name"]) fun _ _ _ _ _ _ us hl => match us, hl with | [_, _], _ => rfl
  have m3 := PySem.W.mg_of X G a3
  have F4 := fun_mk (st := s_operands_of) l4 c4 k4
  have b4 := F4.binds (ps := ["condition"]) fun _ _ _ _ _ _ us hl => match us, hl with | [_], _ => rfl
  have m4 := PySem.W.mg_of X G a4
  have F5 := fun_mk (st := s_unknown_operands) l5 c5 k5
  have b5 := F5.binds (ps := ["condition"]) fun _ _ _ _ _ _ us hl => match us, hl with | [_], _ => rfl
  have m5 := PySem.W.mg_of X G a5
  have F6 := fun_mk (st := s_words_of) l6 c6 k6
  have b6 := F6.binds (ps := ["condition"]) fun _ _ _ _ _ _ us hl => match us, hl with | [_], _ => rfl
  have m6 := PySem.W.mg_of X G a6
  have F7 := fun_mk (st := s_law_pool) l7 c7 k7
  have b7 := F7.binds (ps := ["script"]) fun _ _ _ _ _ _ us hl => match us, hl with | [_], _ => rfl
  have m7 := PySem.W.mg_of X G a7
  have F8 := fun_mk (st := s_law_take) l8 c8 k8
  have b8 := F8.binds (ps := ["pool", "many"]) fun _ _ _ _ _ _ us hl => match us, hl with | [_, _], _ => rfl
  have m8 := PySem.W.mg_of X G a8
  have F9 := fun_mk (st := s_law_words) l9 c9 k9
  have b9 := F9.binds (ps := ["pool", "many"]) fun _ _ _ _ _ _ us hl => match us, hl with | [_, _], _ => rfl
  have m9 := PySem.W.mg_of X G a9
  have F10 := fun_mk (st := s_law_number) l10 c10 k10
  have b10 := F10.binds (ps := ["pool"]) fun _ _ _ _ _ _ us hl => match us, hl with | [_], _ => rfl
  have m10 := PySem.W.mg_of X G a10
  have F11 := fun_mk (st := s_law_atom) l11 c11 k11
  have b11 := F11.binds (ps := ["pool", "names"]) fun _ _ _ _ _ _ us hl => match us, hl with | [_, _], _ => rfl
  have m11 := PySem.W.mg_of X G a11
  have F12 := fun_mk (st := s_law_pick) l12 c12 k12
  have b12 := F12.binds (ps := ["pool", "rows"]) fun _ _ _ _ _ _ us hl => match us, hl with | [_, _], _ => rfl
  have m12 := PySem.W.mg_of X G a12
  have F13 := fun_mk (st := s_law_operand) l13 c13 k13
  have b13 := F13.binds (ps := ["pool", "box"]) fun _ _ _ _ _ _ us hl => match us, hl with | [_, _], _ => rfl
  have m13 := PySem.W.mg_of X G a13
  have F14 := fun_mk (st := s_law_condition) l14 c14 k14
  have b14 := F14.binds (ps := ["pool", "box"]) fun _ _ _ _ _ _ us hl => match us, hl with | [_, _], _ => rfl
  have m14 := PySem.W.mg_of X G a14
  have F15 := fun_mk (st := s_law_stands) l15 c15 k15
  have b15 := F15.binds (ps := ["operand", "found"]) fun _ _ _ _ _ _ us hl => match us, hl with | [_, _], _ => rfl
  have m15 := PySem.W.mg_of X G a15
  have F16 := fun_mk (st := s_law_holds) l16 c16 k16
  have b16 := F16.binds (ps := ["condition", "found"]) fun _ _ _ _ _ _ us hl => match us, hl with | [_, _], _ => rfl
  have m16 := PySem.W.mg_of X G a16
  have F17 := fun_mk (st := s_law_same) l17 c17 k17
  have b17 := F17.binds (ps := ["actual", "due"]) fun _ _ _ _ _ _ us hl => match us, hl with | [_, _], _ => rfl
  have m17 := PySem.W.mg_of X G a17
  have F18 := fun_mk (st := s_law_worth_of) l18 c18 k18
  have b18 := F18.binds (ps := ["pool", "names"]) fun _ _ _ _ _ _ us hl => match us, hl with | [_, _], _ => rfl
  have m18 := PySem.W.mg_of X G a18
  have F19 := fun_mk (st := s_law_words_due) l19 c19 k19
  have b19 := F19.binds (ps := ["condition"]) fun _ _ _ _ _ _ us hl => match us, hl with | [_], _ => rfl
  have m19 := PySem.W.mg_of X G a19
  have F20 := fun_mk (st := s_law) l20 c20 k20
  have T : Txt K mg := ⟨PySem.W.mg_none_of X G z_len, PySem.W.mg_none_of X G z_int, PySem.W.mg_none_of X G z_range, PySem.W.mg_none_of X G z_min, PySem.W.mg_none_of X G z_str, PySem.W.mg_none_of X G z_tuple, PySem.W.mg_none_of X G z_sorted, PySem.W.mg_none_of X G z_isinstance, PySem.W.mg_none_of X G z_any, PySem.W.mg_none_of X G z_all, PySem.W.mg_none_of X G z_list, PySem.W.mg_none_of X G z_bool⟩
  have TP : TxtP K w mg aC dH := ⟨PySem.W.mg_of X G aH, PySem.W.mg_of X G aCm, fun H => .inr ⟨_, _, _, lC, rfl, rfl, small (by show 3 ≤ _; decide), .cons ⟨_, rfl⟩ (.cons ⟨_, rfl⟩ (.cons ⟨_, rfl⟩ .nil))⟩,
    ⟨es, nH, lH, kH, sH⟩, ⟨t4, h1⟩, ⟨t5, h2⟩, ⟨t6, h3⟩, ⟨t7, h4⟩, h5, h6, h7⟩
  refine ⟨PySem.W.fnOf "law" "law" (defArgs s_law) (defBody s_law) (defScope s_law) .none kV20 dc20 pm20 an20 cd20 ct20, fun s v => .of_eq rfl, fun base _ _ => ?_⟩
  have take0 : C8.Cal l.prog w K mg base 0 "_law_take" (spTake 0) [] := cal_mk (none_ok (fun vs H Q E h => by obtain ⟨_, _, _, _, _, _, _, _, h, _⟩ := h; omega)) m8 k8 b8
  have take1 : C8.Cal l.prog w K mg base 1 "_law_take" (spTake 1) [] := cal_mk (ok_take F8 T take0) m8 k8 b8
  have take : C8.Cal l.prog w K mg base 2 "_law_take" (spTake 2) [] := cal_mk (ok_take F8 T take1) m8 k8 b8
  have pool : C8.Cal l.prog w K mg base 1 "_law_pool" (spPool K) [] := cal_mk (ok_pool F7) m7 k7 b7
  have words : C8.Cal l.prog w K mg base 3 "_law_words" spWords [] := cal_mk (ok_words F9 T take) m9 k9 b9
  have number : C8.Cal l.prog w K mg base 3 "_law_number" spNum [] := cal_mk (ok_number F10 take) m10 k10 b10
  have atom : C8.Cal l.prog w K mg base 4 "_law_atom" (spAtom K) [] := cal_mk (ok_atom F11 T take number) m11 k11 b11
  have pick : C8.Cal l.prog w K mg base 3 "_law_pick" spPick [] := cal_mk (ok_pick F12 T take) m12 k12 b12
  have operand : C8.Cal l.prog w K mg base 5 "_law_operand" (spOperand K) [] := cal_mk (ok_operand F13 T take atom pick) m13 k13 b13
  have cond : C8.Cal l.prog w K mg base 6 "_law_condition" (spCond K) [] := cal_mk (ok_cond F14 take operand pick) m14 k14 b14
  have worth : C8.Cal l.prog w K mg base 5 "_law_worth_of" (spWorth K) [] := cal_mk (ok_worth F18 T take atom) m18 k18 b18
  have stands : C8.Cal l.prog w K mg base 1 "_law_stands" (spStands K) [] := cal_mk (ok_stands F15) m15 k15 b15
  have lh1 : C8.Cal l.prog w K mg base 1 "_law_holds" (spLHolds K 1) [] := cal_mk (none_ok (fun vs H Q E h => by obtain ⟨_, _, _, _, _, _, _, _, _, _, h, _⟩ := h; omega)) m16 k16 b16
  have lh2 : C8.Cal l.prog w K mg base 2 "_law_holds" (spLHolds K 2) [] := cal_mk (ok_lholds (Nat.le_refl 1) F16 T lh1 stands) m16 k16 b16
  have lholds : C8.Cal l.prog w K mg base 3 "_law_holds" (spLHolds K 3) [] := cal_mk (ok_lholds (by decide) F16 T lh2 stands) m16 k16 b16
  have sames : ∀ n : Nat, C8.Cal l.prog w K mg base n "_law_same" (spSame K n) [] := fun n => by
    induction n with
    | zero => exact cal_mk (none_ok (fun vs H Q E h => by obtain ⟨_, _, _, _, _, _, h, _⟩ := h; omega)) m17 k17 b17
    | succ n ih => exact cal_mk (ok_same F17 T ih) m17 k17 b17
  have wd1 : C8.Cal l.prog w K mg base 1 "_law_words_due" (spWdue K 1) [] := cal_mk (none_ok (fun vs H Q E h => by obtain ⟨_, _, _, _, _, _, h, _⟩ := h; omega)) m19 k19 b19
  have wd2 : C8.Cal l.prog w K mg base 2 "_law_words_due" (spWdue K 2) [] := cal_mk (ok_wdue (Nat.le_refl 1) F19 T wd1) m19 k19 b19
  have wdue : C8.Cal l.prog w K mg base 3 "_law_words_due" (spWdue K 3) [] := cal_mk (ok_wdue (by decide) F19 T wd2) m19 k19 b19
  have opv : C8.Cal l.prog w K mg base 1 "operand_value" (spOpv K) [] := cal_mk (ok_opv F1) m1 k1 b1
  have has : C8.Cal l.prog w K mg base 1 "_has_entry" (spHas K) [] := cal_mk (ok_has F3) m3 k3 b3
  have ho1 : C8.Cal l.prog w K mg base 1 "holds" (spHolds K 1) [] := cal_mk (none_ok (fun vs H Q E h => by obtain ⟨_, _, _, _, _, _, _, _, _, h, _⟩ := h; omega)) m2 k2 b2
  have ho2 : C8.Cal l.prog w K mg base 2 "holds" (spHolds K 2) [] := cal_mk (ok_holds (Nat.le_refl 1) F2 TP ho1 opv has) m2 k2 b2
  have ho3 : C8.Cal l.prog w K mg base 3 "holds" (spHolds K 3) [] := cal_mk (ok_holds (by decide) F2 TP ho2 opv has) m2 k2 b2
  have op1 : C8.Cal l.prog w K mg base 1 "operands_of" (spOps K 1) [] := cal_mk (none_ok (fun vs H Q E h => by obtain ⟨_, _, _, _, h, _⟩ := h; omega)) m4 k4 b4
  have op2 : C8.Cal l.prog w K mg base 2 "operands_of" (spOps K 2) [] := cal_mk (ok_ops (Nat.le_refl 1) F4 TP op1) m4 k4 b4
  have op3 : C8.Cal l.prog w K mg base 3 "operands_of" (spOps K 3) [] := cal_mk (ok_ops (by decide) F4 TP op2) m4 k4 b4
  have uno : C8.Cal l.prog w K mg base 4 "unknown_operands" (spUno K) [] := cal_mk (ok_uno F5 op3) m5 k5 b5
  have wo3 : C8.Cal l.prog w K mg base 5 "words_of" (spWof K 3) [] := cal_mk (ok_wof F6 uno) m6 k6 b6
  exact ok_law F20 T ⟨pool, take, words, worth, cond, operand, stands, lholds, sames 8, wdue, opv, ho3, wo3⟩
theorem walk {l : PySem.W.OpenLaw} {q : Program} {loose : List Str} {XP : (Str → Option Value) → Heap → Prop} {YP : World → Heap → Prop} {d : DefRec} {K : Params → PySem.W.Frag} (hn : l.most = some 63) (hdf : d.params.defaults = [])
    (hY : ∀ (w : World) (h : Heap), YP w h → (K w.params).In h)
    (F : ∀ (w : World) (mg : Str → Option Value) (fa : Addr) (h : Heap), (K w.params).In h → h.Ns mainGlobals mg → mg d.name = some (.ref fa) →
      ∃ fd : FuncData, (∀ (s : Shared) (u : Value), BindsTo s fd ⟨[u], []⟩ [("script", u)]) ∧ ∀ base : Heap, (K w.params).In base → base.Ns mainGlobals mg → FnOk l.prog w (K w.params) mg base CX0 9 fa fd ["script"] (spLaw (K w.params))) :
    PySem.W.WalkO q loose XP YP l.row.toRowW d [] (fun f vs => PySem.call f vs) :=
  L2.walk_of (n := 63) (k := 9) (x := "script") (CX := fun _ => CX0) (sp := fun w => spLaw (K w.params)) hn (by decide) hdf ⟨rfl, by decide, by decide⟩ hY F (fun _ _ a ns hl _ hS => ⟨a, ns, rfl, hS, hl, fun _ => rfl⟩) fun _ _ _ _ _ z => z
end PK
open PySem PySem.W PyProof.Rows in
set_option maxRecDepth 100000 in
set_option maxHeartbeats 0 in
theorem PySem.Challenge.cw_passproven_k10_conditions_hold_holds : PySem.Challenge.rw_passproven_k10_conditions_hold.Holds := by
  w_on; o_law; k_head; (case hw => w_witness2)
  k_fill
  refine PK.walk (l := PySem.Challenge.rw_passproven_k10_conditions_hold) rfl rfl (fun w h Y => PySem.W.kIn_of Y) ?F
  case F =>
    intro w mg fa h KX G hmg
    refine' PK.all_mk KX G hmg ?a1 ?l1 ?c1 ?k1 ?a2 ?l2 ?c2 ?k2 ?a3 ?l3 ?c3 ?k3 ?a4 ?l4 ?c4 ?k4 ?a5 ?l5 ?c5 ?k5 ?a6 ?l6 ?c6 ?k6 ?a7 ?l7 ?c7 ?k7 ?a8 ?l8 ?c8 ?k8 ?a9 ?l9 ?c9 ?k9 ?a10 ?l10 ?c10 ?k10 ?a11 ?l11 ?c11 ?k11 ?a12 ?l12 ?c12 ?k12 ?a13 ?l13 ?c13 ?k13 ?a14 ?l14 ?c14 ?k14 ?a15 ?l15 ?c15 ?k15 ?a16 ?l16 ?c16 ?k16 ?a17 ?l17 ?c17 ?k17 ?a18 ?l18 ?c18 ?k18 ?a19 ?l19 ?c19 ?k19 ?a20 ?l20 ?c20 ?k20 ?z_len ?z_int ?z_range ?z_min ?z_str ?z_tuple ?z_sorted ?z_isinstance ?z_any ?z_all ?z_list ?z_bool ?aH ?lH ?kH ?sH ?h1 ?h2 ?h3 ?h4 ?h5 ?h6 ?h7 ?aCm ?lC
    (case a1 => k_is)
    (case l1 => k_is)
    (case c1 => k_is)
    (case k1 => k_is)
    (case a2 => k_is)
    (case l2 => k_is)
    (case c2 => k_is)
    (case k2 => k_is)
    (case a3 => k_is)
    (case l3 => k_is)
    (case c3 => k_is)
    (case k3 => k_is)
    (case a4 => k_is)
    (case l4 => k_is)
    (case c4 => k_is)
    (case k4 => k_is)
    (case a5 => k_is)
    (case l5 => k_is)
    (case c5 => k_is)
    (case k5 => k_is)
    (case a6 => k_is)
    (case l6 => k_is)
    (case c6 => k_is)
    (case k6 => k_is)
    (case a7 => k_is)
    (case l7 => k_is)
    (case c7 => k_is)
    (case k7 => k_is)
    (case a8 => k_is)
    (case l8 => k_is)
    (case c8 => k_is)
    (case k8 => k_is)
    (case a9 => k_is)
    (case l9 => k_is)
    (case c9 => k_is)
    (case k9 => k_is)
    (case a10 => k_is)
    (case l10 => k_is)
    (case c10 => k_is)
    (case k10 => k_is)
    (case a11 => k_is)
    (case l11 => k_is)
    (case c11 => k_is)
    (case k11 => k_is)
    (case a12 => k_is)
    (case l12 => k_is)
    (case c12 => k_is)
    (case k12 => k_is)
    (case a13 => k_is)
    (case l13 => k_is)
    (case c13 => k_is)
    (case k13 => k_is)
    (case a14 => k_is)
    (case l14 => k_is)
    (case c14 => k_is)
    (case k14 => k_is)
    (case a15 => k_is)
    (case l15 => k_is)
    (case c15 => k_is)
    (case k15 => k_is)
    (case a16 => k_is)
    (case l16 => k_is)
    (case c16 => k_is)
    (case k16 => k_is)
    (case a17 => k_is)
    (case l17 => k_is)
    (case c17 => k_is)
    (case k17 => k_is)
    (case a18 => k_is)
    (case l18 => k_is)
    (case c18 => k_is)
    (case k18 => k_is)
    (case a19 => k_is)
    (case l19 => k_is)
    (case c19 => k_is)
    (case k19 => k_is)
    (case a20 => k_is)
    (case l20 => k_is)
    (case c20 => k_is)
    (case k20 => k_is)
    (case z_len => k_is)
    (case z_int => k_is)
    (case z_range => k_is)
    (case z_min => k_is)
    (case z_str => k_is)
    (case z_tuple => k_is)
    (case z_sorted => k_is)
    (case z_isinstance => k_is)
    (case z_any => k_is)
    (case z_all => k_is)
    (case z_list => k_is)
    (case z_bool => k_is)
    (case aH => k_is)
    (case lH => k_is)
    (case kH => exact ⟨⟨_, _, rfl, rfl⟩, ⟨_, _, rfl, rfl⟩, ⟨_, _, rfl, rfl⟩, ⟨_, _, rfl, rfl⟩, trivial⟩)
    (case sH => rfl)
    (case h1 => k_is)
    (case h2 => k_is)
    (case h3 => k_is)
    (case h4 => k_is)
    (case h5 => k_is)
    (case h6 => k_is)
    (case h7 => k_is)
    (case aCm => k_is)
    (case lC => k_is)
#print axioms PySem.Challenge.cw_passproven_k10_conditions_hold_holds
