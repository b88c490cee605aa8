import PyProof.Rows.All
import Wide.All
import OpenK.AllK
import Wide.FinOn
import HandS.ForMost
import HandS.Wide
import HandS.IsInst
import HandS.More
import HandS.Conv
import HandS.Codes
import HandS.ForExc
import HandS.ExcInit
import HandS.ExcField
import HandS.TryMany
import KE.GoesEnum
import KE.KExcIs
import HandS.ExcIs
import HandS.Zip
import PyProof.ListNew
import HandS.Walk
import HandS.Style
import HandS.Flow
import PyProof.AttrMissHeap
import HandS.GenCall
import HandS.GenList
import HandS.GenOver
import HandS.TupSets
import HandS.SetTxt0
import HandS.Text
import PyProof.StrOps2
import HandS.List
import PyProof.EqLayable
import KE.KxText
import HandS.Star
import HandS.Rev
import HandS.DictComp
import PyProof.Rows.SortStr
import PyProof.Rows.ReprOcc
import HandS.Comp
import HandS.TupLe
import PySem.Challenge.RW_passproven_k03_written_terms
set_option Elab.async false
set_option linter.all false
set_option maxRecDepth 100000
namespace PKR
open PySem L2
/-! ### one of two walks, as it comes -/
theorem pi_or {X : Cx} {tg iter : Expr} {w1 w2 : TI} (a : PI X tg iter w1) (b : PI X tg iter w2) : PI X tg iter (fun σ H R => w1 σ H R ∨ w2 σ H R) :=
  ⟨fun pins s σ H R I h => h.elim (a.run pins s σ H R I) (b.run pins s σ H R I)⟩
/-! ### enumerate over a tuple -/
set_option maxHeartbeats 2000000 in
theorem meets_enum_any {v : Value} {o : Obj} {Hh : Heap → Prop} (B : Begins v o Hh) :
    Meets (Builtin.«enumerate.__new__» ⟨[.type "enumerate", v], []⟩) (fun _ R s => Hh s.heap ∧
      R (.ok (.ret (.ref (s.heap.push o).objs.size))) { s with heap := (s.heap.push o).push { cls := .type "enumerate", data := .fields #[.none, .bool false, .ref s.heap.objs.size, rawInt 0, .none, .none] } }) := by
  refine .of_wp fun prog w A R s h => ?_
  obtain ⟨hp, g, d, tk, os⟩ := s
  obtain ⟨hH, hR⟩ := h
  have sub_e := sub_enumerate
  have it_v : ∀ {A' : Around} {E Q : Value → Shared → Prop}, Q (.ref hp.objs.size) ⟨hp.push o, g, d, tk, os⟩ → wpAny (model prog w) A' (pyIter v) Q E ⟨hp, g, d, tk, os⟩ := fun z => B.iter prog w _ _ ⟨hp, g, d, tk, os⟩ _ hH z
  wp_walk using it_v
  refine wpAny_stack_any fun st => wpAny_pure ?_
  split
  · rename_i c _ _ _ _ _
    cases (c == Value.type "enumerate") <;> (wp_walk using it_v; exact ⟨_, rfl, hR⟩)
  · wp_walk using it_v
    exact ⟨_, rfl, hR⟩
theorem call_enum_any {prog : Program} {w : World} {A : Around} {E : Value → Shared → Prop} {s : Shared} {v : Value} {o : Obj} {Hh : Heap → Prop} {Q : Value → Shared → Prop} (B : Begins v o Hh) (hH : Hh s.heap)
    (hq : ∀ h', IsEnum h' (s.heap.objs.size + 1) s.heap.objs.size 0 .none → h'.get? s.heap.objs.size = some o → (∀ b u, s.heap.get? b = some u → h'.get? b = some u) → Q (.ref (s.heap.objs.size + 1)) { s with heap := h' }) :
    wpAny (model prog w) A (call (.type "enumerate") [v]) Q E s := by
  refine callType_new F.called_enumerate (by decide) (F.typeCall_enumerate_1 _) (F.newCall_enumerate_1 _) (fun obj => F.args_object_init_2 obj _) F.entry_enumerate_new (meets_enum_any B) ⟨hH, ?_⟩
  have sz : (s.heap.push o).objs.size = s.heap.objs.size + 1 := Heap.size_push ..
  show _ ∧ _
  rw [sz]
  have en : IsEnum ((s.heap.push o).push { cls := .type "enumerate", data := .fields #[.none, .bool false, .ref s.heap.objs.size, rawInt 0, .none, .none] }) (s.heap.objs.size + 1) s.heap.objs.size 0 .none := by
    have g := Heap.get?_push_size (s.heap.push o) (o := { cls := .type "enumerate", data := .fields #[.none, .bool false, .ref s.heap.objs.size, rawInt 0, .none, .none] }) rfl
    rw [sz] at g
    exact g
  exact ⟨⟨_, en, rfl⟩, hq _ en (Heap.get?_push_of_some _ (Heap.get?_push_size _ B.free)) fun b u z => Heap.get?_push_of_some _ (Heap.get?_push_of_some _ z)⟩
/-- the tuple at a, each item in a new pair with its number -/
def ItE (K : PySem.W.Frag) (a : Addr) : It :=
  ⟨fun i H => ∃ (xs : List V) (x : V), SqT K H a xs ∧ xs[i]? = some x, fun i H v H' => ∃ T x, v = .ref T ∧ H T = none ∧ H' = upd H T (.tup [.int (i : Nat), x]) ∧ ∀ xs, SqT K H a xs → xs[i]? = some x, fun i H => ∃ xs : List V, SqT K H a xs ∧ xs.length = i⟩
theorem pair_mem {b e it : Addr} (h : b ∈ [e, it]) : b = e ∨ b = it := by simpa using h
theorem turn_enumT {P : Program} {w : World} {K : PySem.W.Frag} {es : List Expr} {k : Nat} {pos : Pos} (a e it : Addr) :
    Turn P w K (.Tuple es k pos) (ItE K a) [e, it] e (fun i h => (∃ old, IsEnum h e it ((i : Nat) : Int) old) ∧ h.IsTupleIter it a i ∧ e ≠ it ∧ a ≠ it ∧ e ≠ a) where
  mem := List.mem_cons_self
  obj := fun i h st b hb => by
    obtain ⟨⟨old, he⟩, ⟨o, ho, _, hd⟩, _⟩ := st
    rcases pair_mem hb with rfl | rfl
    · exact ⟨_, he, fun v q => nomatch q⟩
    · exact ⟨o, ho, fun v q => by rw [hd] at q; cases q⟩
  keep := fun i h h' st k => by
    obtain ⟨⟨old, he⟩, hi, ne⟩ := st
    exact ⟨⟨old, k e List.mem_cons_self _ he⟩, hi.at fun o q => k it (List.mem_cons_of_mem _ List.mem_cons_self) o q, ne⟩
  item := by
    intro X eP ew eK calm i pins s σ H E I free st go
    subst eP ew eK
    obtain ⟨⟨old, he⟩, hi, ne, na, nea⟩ := st
    obtain ⟨xs, x, hx, gx⟩ := go
    obtain ⟨its, rv, pT, _⟩ := I.tuple hx
    obtain ⟨u, gu, ru⟩ := rv.get gx
    have hh : X.A.handled = none := I.ok.hd calm
    have D := Draws.tuple (prog := X.prog) (w := X.w) (A := X.A.in1) hh it a na its.toArray
    have lt : i < its.toArray.size := by
      have := (List.getElem?_eq_some_iff.mp gu).1
      simpa using this
    have be := Heap.lt_size he
    have bi : it < s.heap.objs.size := by obtain ⟨_, q, _⟩ := hi; exact Heap.lt_size q
    refine wpAny_pyNext_enum_itemD D he ⟨hi, show s.heap.IsTuple a its.toArray from pT⟩ lt ne (fun m => (pair_mem m).elim ne nea) fun y h1 tk hy out st1 hT _ old1 => ?_
    have ey : y = u := by
      have : its.toArray[i]? = some u := by simpa using gu
      rw [hy] at this
      exact Option.some.inj this
    subst ey
    refine ⟨_, rfl, wpAny_letOwnedTupleGo_enum (s := { s with heap := h1, toks := tk + 1 }) out fun h2 en sb => ?_⟩
    have hT2 := (sb.2 _ (Nat.ne_of_gt be)).trans hT
    have obj : ObjOk X.prog X.w (upd H s.heap.objs.size (.tup [.int (i : Nat), x])) h2 s.heap.objs.size (.tup [.int (i : Nat), x]) :=
      ⟨by show 2 ≤ sizeLine; decide, [.int i tk, y], .cons ⟨_, rfl⟩ (.cons ru .nil), ⟨_, hT2, rfl, _, rfl⟩⟩
    have J : Inv X pins σ (upd H s.heap.objs.size (.tup [.int (i : Nat), x])) { s with heap := h2, toks := tk + 1 } :=
      I.turnedNew (ch := [e, it]) (fun b ob nb q => by
        have n1 : b ≠ e := fun z => nb (by rw [z]; exact List.mem_cons_self)
        have n2 : b ≠ it := fun z => nb (by rw [z]; exact List.mem_cons_of_mem _ List.mem_cons_self)
        exact (sb.2 b n1).trans (old1 b ob n1 n2 q)) free (Nat.le_refl _) obj
    refine ⟨.ref s.heap.objs.size, _, J, rfl, ⟨_, x, rfl, I.hok.fresh (Nat.le_refl _), rfl, fun ys hy' => by rw [I.tuple_inj hy' hx]; exact gx⟩, ⟨⟨y, ?_⟩, st1.1.at fun o q => (sb.2 it ne.symm).trans q, ne, na, nea⟩, fun b hb => ?_⟩
    · rw [show ((i + 1 : Nat) : Int) = (i : Int) + 1 by omega]
      exact en
    · have lb : b < s.heap.objs.size := by
        rcases pair_mem hb with rfl | rfl
        · exact be
        · exact bi
      rw [upd_ne (Nat.ne_of_lt lb)]
      exact (free b hb).1
  done := by
    intro X eP ew eK calm i pins s σ H E I free st stop
    subst eP ew eK
    obtain ⟨⟨old, he⟩, hi, ne, na, nea⟩ := st
    obtain ⟨xs, hx, lx⟩ := stop
    obtain ⟨its, rv, pT, _⟩ := I.tuple hx
    have hh : X.A.handled = none := I.ok.hd calm
    have D := Draws.tuple (prog := X.prog) (w := X.w) (A := X.A.in1) hh it a na its.toArray
    have ei : its.toArray.size = i := by rw [List.size_toArray, ← rv.length, lx]
    obtain ⟨f0, f1, f2, f3, f4, f5⟩ := free it (List.mem_cons_of_mem _ List.mem_cons_self)
    exact wpAny_pyNext_enum_endD D he ⟨by rw [ei]; exact hi, show s.heap.IsTuple a its.toArray from pT⟩ fun h2 old1 => ⟨rfl, I.turned (t' := s.toks) (fun b o nb q => old1 b o nb q) f0 f1 f3 f4 f5⟩
  self := fun A i s Q E st h => by
    obtain ⟨⟨_, he⟩, _⟩ := st
    exact wpAny_pyIter_enum he h
def iEnumT (K : PySem.W.Frag) (ta : TA) : TI := fun σ H R => ta σ H fun vs H1 => ∃ a xs, vs = [.ref a] ∧ SqT K H1 a xs ∧ R (ItE K a) H1
theorem pi_enumT {X : Cx} {e : Expr} {ta : TA} {p pos tpos : Pos} {es : List Expr} {k : Nat} (hg : Gl X "enumerate") (hm : X.mg "enumerate" = none) (ha : PA X [e] ta) (hs : starEach [e] X.env = [(false, eval e X.env)] := by rfl) :
    PI X (.Tuple es k tpos) (.Call (.Name "enumerate" p) [e] [] pos) (iEnumT X.K ta) := by
  refine ⟨fun pins s σ H R I h => PyProof.Rows.Call_ (ld_blt I hg hm PyProof.Rows.boot_enumerate (PyProof.Rows.callWith_type1 (thn (ha.run pos pins s σ H _ I h) fun us s1 hz => ?_) hs rfl))⟩
  obtain ⟨vs, H1, I1, rs, a, xs, rfl, hx, q⟩ := hz
  cases rs with
  | cons r rest =>
    cases rest
    cases r
    obtain ⟨its, rv, pT, _⟩ := I1.tuple hx
    have la : a < s1.heap.objs.size := pT.lt
    refine call_enum_any (begins_tuple a its.toArray) (show s1.heap.IsTuple a its.toArray from pT) fun h2 en gi old => wpAny_pyIter_enum en ?_
    have J : Inv X pins σ H1 { s1 with heap := h2 } := I1.kept (t' := s1.toks) old
    have na : a ≠ s1.heap.objs.size := Nat.ne_of_lt la
    have nea : s1.heap.objs.size + 1 ≠ a := Nat.ne_of_gt (Nat.lt_succ_of_lt la)
    refine ⟨_, [s1.heap.objs.size + 1, s1.heap.objs.size], _, _, H1, rfl, J, turn_enumT a (s1.heap.objs.size + 1) s1.heap.objs.size, ⟨⟨.none, en⟩, ⟨_, gi, rfl, rfl⟩, Nat.succ_ne_self _, na, nea⟩, fun b hb => ?_, q⟩
    have lb : s1.heap.objs.size ≤ b := by
      rcases pair_mem hb with rfl | rfl
      · exact Nat.le_succ _
      · exact Nat.le_refl _
    exact I1.fpOk lb (I1.hok.fresh lb)
/-! ### an empty tuple and another one -/
def rCat0 (K : PySem.W.Frag) : R2 := fun x y H Q => ∃ a b ys, x = .ref a ∧ y = .ref b ∧ SqT K H a [] ∧ SqT K H b ys ∧ Q (.ref b) H
theorem op_cat0 {X : Cx} : OpR X (binaryOp .Add) (rCat0 X.K) := by
  intro pins s σ H x y v u Q I rx ry h
  obtain ⟨a, b, ys, rfl, rfl, ha, hb, q⟩ := h
  cases rx
  cases ry
  obtain ⟨i1, r1, p1, _⟩ := I.tuple ha
  obtain ⟨i2, r2, p2, _⟩ := I.tuple hb
  cases r1
  obtain ⟨⟨c1, d1, t1, l1⟩, g1, e1, n1, f1⟩ := id p1
  obtain ⟨⟨c2, d2, t2, l2⟩, g2, e2, n2, f2⟩ := id p2
  simp only at e1 f1 e2 f2
  subst e1 f1 e2 f2
  exact PySem.concat_meets ⟨_, g1, rfl⟩ ⟨_, g2, rfl⟩ PySem.noFill_tuple_add PySem.seq_tuple_add PySem.F.slot_tuple_add PySem.F.entry_tuple_add (PySem.F.args_tuple_add_2 _ _)
    (PyProof.Rows.tuple_addW0 a b #[] i2.toArray n1 n2 d1 d2 l1 l2 rfl) ⟨g1, g2, ⟨.ref b, H, I, rfl, q⟩⟩
/-- t + u -/
def rCatA (K : PySem.W.Frag) : R2 := fun x y H Q => rCatT K x y H Q ∨ rCat0 K x y H Q
theorem op_catA {X : Cx} : OpR X (binaryOp .Add) (rCatA X.K) := op_catT.or op_cat0
end PKR
/-! a try with several clauses 'except X as n', every one with its own suite -/
namespace L2.PKR
open PySem PySem.Spec PyProof.Rows
abbrev Suite := Addr → Value → Option Addr → TS
/-- the ends of a suite whose name is given back -/
def offEnds (i : Nat) (D : Ends) : Ends := ⟨fun p q => D.nx (p.set i none) q, D.rt, fun p q => D.bk (p.set i none) q, fun p q => D.ct (p.set i none) q⟩
/-- the wish of the clauses, in their order -/
def wRow (K : PySem.W.Frag) (Wout : WX) (D : Ends) : List (Value × Nat × Suite) → WX
  | [] => Wout
  | (c, i, ts) :: rest => fun cls d σ H =>
    ∃ yes, PySem.W.exmOne K cls c = some yes ∧ (yes = true → ∀ a, H a = none → ts a cls d (offEnds i D) (σ.set i (some (.ref a))) H) ∧ (yes = false → wRow K Wout D rest cls d σ H)
/-- the exception at a, caught and on the ground -/
structure Down (X : Cx) (pins : List (Addr × Obj)) (B : Heap) (a : Addr) (before : Shared) (σ : St) (H : Hp) (cls : Value) (d : Option Addr) (s : Shared) : Prop where
  inv : Inv X pins σ H before
  base : ∀ b o, before.heap.get? b = some o → b ∉ frs X.stack → B.get? b = some o
  slots : before.heap.UpToSlots s.heap
  fly : HandSPX.FlyingZ B (X.env :: X.outer) a (Zc cls d) s.heap
  out : H a = none
  os : s.os = before.os
  bare : AllBare s.gens
section
variable {X : Cx} {pins : List (Addr × Obj)} {B : Heap} {a : Addr} {before s : Shared} {σ : St} {H : Hp} {cls : Value} {d : Option Addr} {D : Ends} {Wout : WX}
theorem Down.here (z : Down X pins B a before σ H cls d s) : Inv X pins σ H s := z.inv.landed z.base z.fly.1 z.slots z.os z.bare
/-- its object, and that it is none of the frames' -/
theorem Down.obj (hf : X.env.frame = some X.env.locals) (z : Down X pins B a before σ H cls d s) : ∃ oe vs, s.heap.get? a = some oe ∧ Zc cls d oe ∧ oe.data = .fields vs ∧ a ≠ X.env.locals ∧ a ∉ X.fs := by
  obtain ⟨oe, vs, he, hz, hd⟩ := z.fly.there
  have nfr : a ∉ frs (X.env :: X.outer) := fun hm => by
    obtain ⟨_, o2, e2, no⟩ := z.fly.2.2.1.mem hm
    rw [he] at e2
    cases e2
    exact no _ hd
  refine ⟨oe, vs, he, hz, hd, fun q => nfr (List.mem_filterMap.mpr ⟨X.env, .head _, by rw [hf, q]⟩), fun q => ?_⟩
  obtain ⟨en, m, r⟩ := List.mem_filterMap.mp q
  exact nfr (List.mem_filterMap.mpr ⟨en, .tail _ m, r⟩)
theorem Down.more (z : Down X pins B a before σ H cls d s) {h : Heap} (fl : HandSPX.FlyingZ B (X.env :: X.outer) a (Zc cls d) h) (up : s.heap.UpToSlots h) : Down X pins B a before σ H cls d { s with heap := h } :=
  ⟨z.inv, z.base, z.slots.trans up, fl, z.out, z.os, z.bare⟩
/-- no clause is left -/
theorem row_nil (hs : X.stack = X.env :: X.outer) (hf : X.env.frame = some X.env.locals) (tk : Takes X Wout) (z : Down X pins B a before σ H cls d s) (w : Wout cls d σ H) :
    wpAny (model X.prog X.w) X.A (handleBy (.ref a) X.env []) (SP X pins D) X.xe s := by
  refine wpAny_handleBy_nil ?_
  obtain ⟨_, _, _, oe, vs, T, _, _, he, _, hd, h1, _⟩ := id z.fly
  unfold PySem.passOn
  refine wpAny_bind (wpAny_field he hd h1 ?_)
  rw [if_neg (show ¬ ((Value.ref T == Value.none) = true) by simp)]
  have last : wpAny (model X.prog X.w) X.A (setFlight (.ref a) X.env.frame) (fun _ s2 => wpAny (model X.prog X.w) X.A (throw (.ref a) : Sem Flow) (SP X pins D) X.xe s2) X.xe s := by
    rw [hf]
    refine HandSPX.setFlight_upZ z.fly fun h2 held up => wpAny_throw (tk _ _ ?_)
    exact ⟨a, B, before, pins, σ, H, cls, d, rfl, z.inv, z.base, z.slots.trans up, .inr (.inr (by rw [hs]; exact held)), z.out, z.os, z.bare, w⟩
  first
    | exact wpAny_bind (wpAny_pure (wpAny_bind last))
    | exact wpAny_bind last
/-- one clause -/
theorem row_cons {x n : Str} {c : Value} {i : Nat} {b₀ : Stmt} {more : List Stmt} {np pos : Pos} {ts : Suite} {hds : List ExceptHandler} {yes : Bool} (hf : X.env.frame = some X.env.locals) (hN : X.N.Nodup) (hi : X.N[i]? = some n)
    (hl : X.env.kindOf n = some .local) (hc : Names X x c)
    (body : ∀ (a : Addr) (oe : Obj) (cls : Value) (d : Option Addr) (pn : List (Addr × Obj)), Zc cls d oe → (∃ vs, oe.data = .fields vs) → PSs (X.suite a ((a, oe) :: pn)) (b₀ :: more) (ts a cls d))
    (z : Down X pins B a before σ H cls d s) (hy : PySem.W.exmOne X.K cls c = some yes) (t : yes = true → ts a cls d (offEnds i D) (σ.set i (some (.ref a))) H)
    (f : yes = false → wpAny (model X.prog X.w) X.A (handleBy (.ref a) X.env hds) (SP X pins D) X.xe s) :
    wpAny (model X.prog X.w) X.A (handleBy (.ref a) X.env (.ExceptHandler (some (.Name x np)) (some n) (b₀ :: more) pos :: hds)) (SP X pins D) X.xe s := by
  have ok := z.inv.ok
  obtain ⟨oe, vs, he, hz, hd, nL, nF⟩ := z.obj hf
  have S := z.here.suite he hd z.out nL nF
  refine wpAny_handleBy_cons (codeAny_handlers_test ?_) (fun q => nomatch q)
  have ty : PySem.W.Looks (model X.prog X.w) s.heap (typeOf (.ref a)) cls := fun _ _ _ _ k q => wpAny_typeOf_ref (k _ _ he) (by rw [hz.1]; exact q)
  have isIt := PySem.W.exm_one (M := model X.prog X.w) z.here.kIn ty hy
  have named : ∀ {Q E : Value → Shared → Prop}, Q c s → wpAny (model X.prog X.w) (X.A.mark (some (.ref a))) (eval (.Name x np) X.env) Q E s := fun {Q E} q => by
    obtain ⟨hg, nd, hm | ⟨hm, hv, hn⟩⟩ := hc
    · exact ld_glob (X := X.suite a ((a, oe) :: (X.pn ++ pins))) S hg hm q nd
    · exact ld_blt (X := X.suite a ((a, oe) :: (X.pn ++ pins))) S hg hm hv q hn nd
  refine named (isIt.here ?_)
  cases yes with
  | false => exact f rfl
  | true =>
    refine codeAny_handlers_suite_as (HandSPX.lands_againZ z.fly fun h2 fl up => ?_)
    have z2 := z.more fl up
    obtain ⟨oe2, vs2, he2, hz2, hd2, nL2, nF2⟩ := z2.obj hf
    refine store_ok (X := X.suite a ((a, oe2) :: (X.pn ++ pins))) (v := .ref a) (z2.here.suite he2 hd2 z.out nL2 nF2) hN hi (.inl hl) rfl (fun s3 S3 => ?_) (.inr hl)
    have run := (body a oe2 cls d (X.pn ++ pins) hz2 ⟨_, hd2⟩).run [] s3 (σ.set i (some (.ref a))) H (offEnds i D) S3 (t rfl)
    have gone : ∀ {p : St} {q : Hp} {s4 : Shared} {Q : Shared → Prop}, Inv (X.suite a ((a, oe2) :: (X.pn ++ pins))) [] p q s4 → (∀ s5, Inv X pins (p.set i none) q s5 → Q s5) →
        wpAny (model X.prog X.w) X.A (do bindName X.env n .none; unbindBehindTheSuite X.env n pos) (fun _ s5 => Q s5) X.xe s4 := fun S4 k => gone_ok (S4.unsuite ok) hN hi hl k
    refine wpAny_mono run (fun fl4 s4 done => ?_) (fun _ _ no => False.elim no)
    rcases fl4 with _ | _ | _ | u
    · obtain ⟨p, q, S4, k⟩ := done
      exact gone S4 fun s5 J => ⟨_, _, J, k⟩
    · obtain ⟨p, q, S4, k⟩ := done
      exact gone S4 fun s5 J => ⟨_, _, J, k⟩
    · obtain ⟨p, q, S4, k⟩ := done
      exact gone S4 fun s5 J => ⟨_, _, J, k⟩
    · obtain ⟨v, p, q, S4, r, k⟩ := done
      exact gone S4 fun s5 J => ⟨_, _, _, J, r, k⟩
end
/-- the clauses and their wishes -/
inductive Row (X : Cx) : List ExceptHandler → List (Value × Nat × Suite) → Prop
  | nil : Row X [] []
  | cons {x n : Str} {c : Value} {i : Nat} {b₀ : Stmt} {more : List Stmt} {np pos : Pos} {ts : Suite} {hds : List ExceptHandler} {l : List (Value × Nat × Suite)} (hi : X.N[i]? = some n) (hl : X.env.kindOf n = some .local) (hc : Names X x c)
      (body : ∀ (a : Addr) (oe : Obj) (cls : Value) (d : Option Addr) (pn : List (Addr × Obj)), Zc cls d oe → (∃ vs, oe.data = .fields vs) → PSs (X.suite a ((a, oe) :: pn)) (b₀ :: more) (ts a cls d)) (r : Row X hds l) :
      Row X (.ExceptHandler (some (.Name x np)) (some n) (b₀ :: more) pos :: hds) ((c, i, ts) :: l)
theorem row_runs {X : Cx} {pins : List (Addr × Obj)} {B : Heap} {a : Addr} {before s : Shared} {σ : St} {H : Hp} {cls : Value} {d : Option Addr} {D : Ends} {Wout : WX} (hs : X.stack = X.env :: X.outer) (hf : X.env.frame = some X.env.locals) (hN : X.N.Nodup) (tk : Takes X Wout)
    {hds : List ExceptHandler} {l : List (Value × Nat × Suite)} (hh : Row X hds l) (z : Down X pins B a before σ H cls d s) (w : wRow X.K Wout D l cls d σ H) : wpAny (model X.prog X.w) X.A (handleBy (.ref a) X.env hds) (SP X pins D) X.xe s := by
  induction hh with
  | nil => exact row_nil hs hf tk z w
  | cons hi hl hc body r ih =>
    obtain ⟨yes, hy, t, f⟩ := w
    exact row_cons hf hN hi hl hc body z hy (fun e => t e a z.out) fun e => ih (f e)
theorem ps_try_row {X : Cx} {body : List Stmt} {h₀ : ExceptHandler} {hds : List ExceptHandler} {l : List (Value × Nat × Suite)} {pos : Pos} {tb : WX → TS} {Wout : WX} (hs : X.stack = X.env :: X.outer) (hf : X.env.frame = some X.env.locals) (hN : X.N.Nodup) (tk : Takes X Wout)
    (hb : ∀ (W : WX) (pn : List (Addr × Obj)) (xe : Value → Shared → Prop), Takes (X.tr pn xe) W → PassesOwn (model X.prog X.w) X.A X.env xe → PSs (X.tr pn xe) body (tb W))
    (hh : Row X (h₀ :: hds) l) : PS X (.Try body (h₀ :: hds) [] [] pos) (fun D σ H => tb (wRow X.K Wout D l) D σ H) := by
  refine ⟨fun pins s σ H D I h => wpAny_Try_except ?_⟩
  have ok := I.ok
  have fr : X.A.frames = some (X.env :: X.outer) := by rw [ok.frames, hs]
  have inner := hb (wRow X.K Wout D l) (X.pn ++ pins)
    (fun e s1 => wpAny (model X.prog X.w) X.A (noteFrame e X.env) (fun _ s2 => wpAny (model X.prog X.w) X.A (setFlight e none) (fun _ s3 => wpAny (model X.prog X.w) X.A (handleBy e X.env (h₀ :: hds)) (SP X pins D) X.xe s3) X.xe s2) X.xe s1)
    (fun u s1 air => by
      obtain ⟨a, B, before, pins1, p, q, cls, d, rfl, J, base, up, sky, out, os, bare, w⟩ := air
      have J1 : Inv X pins p q before := J.ofTry ok
      refine Sky.land Zc.steady fr hf (show Sky B (X.env :: X.outer) a (Zc cls d) X.env.locals s1.heap by rw [← hs]; exact sky) fun h2 fl up2 => ?_
      exact row_runs hs hf hN tk hh (s := { s1 with heap := h2 }) ⟨J1, base, up.trans up2, fl, out, os, bare⟩ w)
    PassesOwn.looking
  refine wpAny_mono (inner.run [] s σ H D (I.toTry _) h) (fun f s1 done => ?_) (fun _ _ k => k)
  rcases f with _ | _ | _ | u
  · obtain ⟨p, q, J, k⟩ := done
    exact wpAny_execs_nil ⟨p, q, J.ofTry ok, k⟩
  · obtain ⟨p, q, J, k⟩ := done
    exact ⟨p, q, J.ofTry ok, k⟩
  · obtain ⟨p, q, J, k⟩ := done
    exact ⟨p, q, J.ofTry ok, k⟩
  · obtain ⟨v, p, q, J, r, k⟩ := done
    exact ⟨v, p, q, J.ofTry ok, r, k⟩
end L2.PKR
/-! isinstance(e, C), e a caught error of an own class with fields -/
namespace L2.PKR
open PySem PySem.Spec PyProof.Rows
def rIsX (K : PySem.W.Frag) (a : Addr) (cls : Value) (d : Option Addr) : List V → Hp → VK → Prop := fun xs H Q =>
  ∃ (c : V) (cv : Value) (yes : Bool) (D dd : Addr) (fs : List (Str × V)), xs = [.ref a, c] ∧ (∀ u, RelV c u → u = cv) ∧ cls = .ref D ∧ d = some dd ∧ H dd = some (.xd fs) ∧ ExcC K D ∧ PySem.W.kitOne K (.ref D) cv = some yes ∧ Q (.bl yes) H
theorem call_isX {X : Cx} {a : Addr} {oe : Obj} {cls : Value} {d : Option Addr} {pn : List (Addr × Obj)} (hz : Zc cls d oe) (hf : ∃ vs, oe.data = .fields vs) : CallR (X.suite a ((a, oe) :: pn)) (.builtin "isinstance") (rIsX X.K a cls d) := by
  intro pins s σ H xs us Q I r h
  obtain ⟨c, cv, yes, D, dd, fs, rfl, hcv, rfl, rfl, hx, C, hk, q⟩ := h
  rcases r with _ | ⟨rx, rr⟩
  rcases rr with _ | ⟨rc, rr⟩
  cases rr
  cases rx
  cases hcv _ rc
  have at_a := (I.pin (a, oe) (List.mem_append_left _ (.head _))).1
  obtain ⟨vs, hd⟩ := hf
  obtain ⟨mA, hns, _⟩ := (show ObjOk X.prog X.w H s.heap dd (.xd fs) from I.hok dd _ hx)
  obtain ⟨od, ho, _⟩ := lookIn_ns hns
  have J : PySem.W.InstAt s.heap a oe D (some od) := ⟨at_a, hz.1, by unfold PySem.W.notCls; rw [hd] <;> rfl, by rw [hz.2]; exact ho⟩
  obtain ⟨cd, hcd, _⟩ := PySem.W.any_some C.hd
  exact PySem.W.kia_one (PySem.W.kitx_exc (by rw [hcd]; rfl) C.hg C.hk C.hs C.ha C.hn C.ht C.hm) I.kIn J hk (fun e => nomatch e) fun tk => ⟨.bl yes, H, I.kept (t' := tk) fun _ _ k => k, rfl, q⟩
end L2.PKR
namespace PKZ
open PySem PySem.Spec PyProof.Rows L2
/-! zip of a list or a tuple with a list or a tuple, collected -/
inductive Kd where | l | t
def Kd.It : Kd → Heap → Addr → Addr → Nat → Prop
  | .l, h, i, a, k => h.IsListIter i a k
  | .t, h, i, a, k => h.IsTupleIter i a k
def Kd.Sq : Kd → Heap → Addr → Array Value → Prop
  | .l, h, a, xs => h.IsList a xs
  | .t, h, a, xs => h.IsTuple a xs
section
variable {prog : Program} {w : World} {A : Around} {E : Value → Shared → Prop} {s : Shared}
theorem Kd.it_at {kd : Kd} {h h' : Heap} {i a : Addr} {k : Nat} (q : kd.It h i a k) (e : ∀ o, h.get? i = some o → h'.get? i = some o) : kd.It h' i a k := by
  cases kd with
  | l => exact Heap.IsListIter.at q e
  | t => exact Heap.IsTupleIter.at q e
theorem Kd.sq_at {kd : Kd} {h h' : Heap} {a : Addr} {xs : Array Value} (q : kd.Sq h a xs) (e : ∀ o, h.get? a = some o → h'.get? a = some o) : kd.Sq h' a xs := by
  cases kd with
  | l => exact Heap.IsList.at q e
  | t => exact Heap.IsTuple.at q e
theorem nx_item {kd : Kd} {i a : Addr} {k : Nat} {xs : Array Value} {x : Value} {Q : Value → Shared → Prop} (q : kd.It s.heap i a k) (q2 : kd.Sq s.heap a xs) (hx : xs[k]? = some x)
    (hQ : ∀ h', kd.It h' i a (k + 1) → Heap.SameBut i s.heap h' → Q x { s with heap := h' }) : wpAny (model prog w) A (Builtin.SmallTypes.nextOf (.ref i)) Q E s := by
  cases kd with
  | l => exact wpAny_nextOf_list_item q q2 hx hQ
  | t => exact RZ.nextOf_tuple_item q q2 hx hQ
theorem nx_end {kd : Kd} {i a : Addr} {k : Nat} {xs : Array Value} {Q : Value → Shared → Prop} (hh : A.handled = none) (q : kd.It s.heap i a k) (q2 : kd.Sq s.heap a xs) (hx : xs[k]? = none)
    (hE : ∀ h' e, Heap.ExtBut i s.heap h' → (∃ o, h'.get? e = some o ∧ o.cls = .type "StopIteration") → E (.ref e) { s with heap := h' }) : wpAny (model prog w) A (Builtin.SmallTypes.nextOf (.ref i)) Q E s := by
  cases kd with
  | l => exact wpAny_nextOf_list_end hh q q2 hx hE
  | t => exact RZ.nextOf_tuple_end hh q q2 hx hE
theorem Kd.it_get {kd : Kd} {h : Heap} {i a : Addr} {k : Nat} (q : kd.It h i a k) : ∃ o, h.get? i = some o ∧ ∀ v, o.data ≠ .cell v := by
  cases kd with
  | l => obtain ⟨o, e, _, d⟩ := q; exact ⟨o, e, fun v z => by rw [d] at z; cases z⟩
  | t => obtain ⟨o, e, _, d⟩ := q; exact ⟨o, e, fun v z => by rw [d] at z; cases z⟩
/-- a zip object; b: its own pair is held elsewhere -/
abbrev Zo (h : Heap) (z TI TO : Addr) (f0 : Value) (b : Bool) : Prop :=
  h.get? z = some { cls := .type "zip", dict := none, data := .fields #[f0, .bool b, .bool false, .ref TI, .ref TO], slots := #[] }
theorem w_alive {M : Model} {a : Addr} {Q : Option Obj → Shared → Prop} (h : Q (s.heap.get? a) s) : wpAny M A (loadIfAlive a) Q E s := fun _ _ _ => h
/-- its own pair is held -/
theorem not_free {z TI TO T0 : Addr} {bb : Bool} {o0 : Obj} {Q : Bool → Shared → Prop} (hz : Zo s.heap z TI TO (rawInt T0) bb) (h0 : s.heap.get? T0 = some o0)
    (hQ : ∀ h', Zo h' z TI TO (rawInt T0) true → Heap.SameBut z s.heap h' → Q false { s with heap := h' }) : wpAny (model prog w) A (Builtin.SmallTypes.ownedTupleIsFree (.ref z)) Q E s := by
  unfold Builtin.SmallTypes.ownedTupleIsFree
  refine wpAny_bind (wpAny_field hz rfl (x := rawInt T0) rfl ?_)
  show wpAny _ _ (loadIfAlive (T0 : Int).toNat >>= _) _ _ _
  refine wpAny_bind (w_alive ?_)
  rw [Int.toNat_natCast, h0]
  show wpAny _ _ (field (.ref z) 1 >>= _) _ _ _
  refine wpAny_bind (wpAny_field hz rfl (x := .bool bb) rfl ?_)
  cases bb with
  | true => exact wpAny_pure (hQ _ hz ⟨rfl, fun _ _ => rfl⟩)
  | false =>
    show wpAny _ _ (setField (.ref z) 1 (.bool true) >>= _) _ _ _
    exact wpAny_bind (wpAny_setField_rec hz (by simp) fun h1 e1 e2 => wpAny_pure (hQ h1 e1 e2))
/-- its next pair, its own one being held -/
theorem held_item {ka kb : Kd} {z TI TO i1 i2 l1 l2 T0 : Addr} {n m : Nat} {bb : Bool} {xs ys : Array Value} {x y : Value} {o0 : Obj} {Q : Value → Shared → Prop} (D : ZipApart z TI TO i1 i2 l1 l2)
    (hz : Zo s.heap z TI TO (rawInt T0) bb) (h0 : s.heap.get? T0 = some o0) (hTI : IsPair s.heap TI (.ref i1) (.ref i2))
    (h1 : ka.It s.heap i1 l1 n) (h2 : kb.It s.heap i2 l2 m) (q1 : ka.Sq s.heap l1 xs) (q2 : kb.Sq s.heap l2 ys) (hx : xs[n]? = some x) (hy : ys[m]? = some y)
    (hQ : ∀ h', Zo h' z TI TO (rawInt T0) true → ka.It h' i1 l1 (n + 1) → kb.It h' i2 l2 (m + 1) → IsPair h' s.heap.objs.size x y → h'.objs.size = s.heap.objs.size + 1 →
      (∀ c o, c ≠ z → c ≠ i1 → c ≠ i2 → s.heap.get? c = some o → h'.get? c = some o) → Q (.ref s.heap.objs.size) { s with heap := h' }) :
    wpAny (model prog w) A (Builtin.«zip.__next__» ⟨[.ref z], []⟩) (fun fin s' => ∃ v, fin = .done (.ret v) ∧ Q v s') E s := by
  show wpAny _ _ (field (.ref z) 2 >>= _) _ _ _
  refine wpAny_bind (wpAny_field hz rfl (x := .bool false) rfl ?_)
  show wpAny _ _ (field (.ref z) 3 >>= _) _ _ _
  refine wpAny_bind (wpAny_field hz rfl (x := .ref TI) rfl (wpAny_bind (wpAny_seqItems hTI rfl ?_)))
  show wpAny _ _ (Builtin.SmallTypes.ownedTupleIsFree (.ref z) >>= _) _ _ _
  refine wpAny_bind (not_free hz h0 fun g1 z1 e1 => ?_)
  rw [if_neg Bool.false_ne_true]
  dsimp only
  refine wpAny_bind ?_
  rw [← Array.forIn_toList]
  simp only [List.forIn_cons, List.forIn_nil]
  refine wpAny_bind (wpAny_bind (wpAny_holding ?_))
  have a1 : ka.It g1 i1 l1 n := Kd.it_at h1 fun o q => e1.extBut _ _ D.i1z q
  have b1 : ka.Sq g1 l1 xs := Kd.sq_at q1 fun o q => e1.extBut _ _ D.l1z q
  show wpAny _ _ (Builtin.SmallTypes.nextOf (.ref i1) >>= _) _ _ _
  refine wpAny_bind (nx_item a1 b1 hx fun g2 a2 e2 => wpAny_pure (wpAny_pure ?_))
  dsimp only
  refine wpAny_bind (wpAny_bind (wpAny_holding ?_))
  have a3 : kb.It g2 i2 l2 m := Kd.it_at h2 fun o q => e2.extBut _ _ D.i12.symm (e1.extBut _ _ D.i2z q)
  have b3 : kb.Sq g2 l2 ys := Kd.sq_at q2 fun o q => e2.extBut _ _ D.l2i1 (e1.extBut _ _ D.l2z q)
  show wpAny _ _ (Builtin.SmallTypes.nextOf (.ref i2) >>= _) _ _ _
  refine wpAny_bind (nx_item a3 b3 hy fun g3 a4 e3 => wpAny_pure (wpAny_pure (wpAny_pure ?_)))
  have sz : g3.objs.size = s.heap.objs.size := e3.1.trans (e2.1.trans e1.1)
  have kp : ∀ c o, c ≠ z → c ≠ i1 → c ≠ i2 → s.heap.get? c = some o → g3.get? c = some o := fun c o c1 c2 c3 q => e3.extBut _ _ c3 (e2.extBut _ _ c2 (e1.extBut _ _ c1 q))
  have z3 : Zo g3 z TI TO (rawInt T0) true := e3.extBut _ _ D.i2z.symm (e2.extBut _ _ D.i1z.symm z1)
  show wpAny _ _ (newTuple [x, y] >>= _) _ _ _
  refine wpAny_bind (wpAny_newTuple (wpAny_pure ⟨_, rfl, ?_⟩))
  dsimp only
  rw [sz]
  refine hQ _ (Heap.get?_push_of_some _ z3) (Kd.it_at a2 fun o q => Heap.get?_push_of_some _ (e3.extBut _ _ D.i12 q)) (Kd.it_at a4 fun o q => Heap.get?_push_of_some _ q) ?_ (by rw [Heap.size_push, sz]) fun c o c1 c2 c3 q => Heap.get?_push_of_some _ (kp c o c1 c2 c3 q)
  rw [← sz]
  exact Heap.get?_push_size _ rfl
/-- one of the two is at its end, the own pair being held -/
theorem held_end {ka kb : Kd} {z TI TO i1 i2 l1 l2 T0 : Addr} {n m : Nat} {bb : Bool} {xs ys : Array Value} {o0 : Obj} {Q : PySem.Fin → Shared → Prop} (hh : A.handled = none) (D : ZipApart z TI TO i1 i2 l1 l2)
    (hz : Zo s.heap z TI TO (rawInt T0) bb) (h0 : s.heap.get? T0 = some o0) (hTI : IsPair s.heap TI (.ref i1) (.ref i2))
    (h1 : ka.It s.heap i1 l1 n) (h2 : kb.It s.heap i2 l2 m) (q1 : ka.Sq s.heap l1 xs) (q2 : kb.Sq s.heap l2 ys) (hend : xs[n]? = none ∨ ys[m]? = none)
    (hE : ∀ h' e, (∀ c o, c ≠ z → c ≠ i1 → c ≠ i2 → s.heap.get? c = some o → h'.get? c = some o) → (∃ o, h'.get? e = some o ∧ o.cls = .type "StopIteration") → E (.ref e) { s with heap := h' }) :
    wpAny (model prog w) A (Builtin.«zip.__next__» ⟨[.ref z], []⟩) Q E s := by
  show wpAny _ _ (field (.ref z) 2 >>= _) _ _ _
  refine wpAny_bind (wpAny_field hz rfl (x := .bool false) rfl ?_)
  show wpAny _ _ (field (.ref z) 3 >>= _) _ _ _
  refine wpAny_bind (wpAny_field hz rfl (x := .ref TI) rfl (wpAny_bind (wpAny_seqItems hTI rfl ?_)))
  show wpAny _ _ (Builtin.SmallTypes.ownedTupleIsFree (.ref z) >>= _) _ _ _
  refine wpAny_bind (not_free hz h0 fun g1 z1 e1 => ?_)
  rw [if_neg Bool.false_ne_true]
  dsimp only
  refine wpAny_bind ?_
  rw [← Array.forIn_toList]
  simp only [List.forIn_cons, List.forIn_nil]
  refine wpAny_bind (wpAny_bind (wpAny_holding ?_))
  have a1 : ka.It g1 i1 l1 n := Kd.it_at h1 fun o q => e1.extBut _ _ D.i1z q
  have b1 : ka.Sq g1 l1 xs := Kd.sq_at q1 fun o q => e1.extBut _ _ D.l1z q
  show wpAny _ _ (Builtin.SmallTypes.nextOf (.ref i1) >>= _) _ _ _
  cases hx : xs[n]? with
  | none => exact wpAny_bind (nx_end hh a1 b1 hx fun g2 e e2 he => hE g2 e (fun c o c1 c2 c3 q => e2 _ _ c2 (e1.extBut _ _ c1 q)) he)
  | some x =>
    have hy : ys[m]? = none := hend.resolve_left fun q => by rw [hx] at q; cases q
    refine wpAny_bind (nx_item a1 b1 hx fun g2 a2 e2 => wpAny_pure (wpAny_pure ?_))
    dsimp only
    refine wpAny_bind (wpAny_bind (wpAny_holding ?_))
    have a3 : kb.It g2 i2 l2 m := Kd.it_at h2 fun o q => e2.extBut _ _ D.i12.symm (e1.extBut _ _ D.i2z q)
    have b3 : kb.Sq g2 l2 ys := Kd.sq_at q2 fun o q => e2.extBut _ _ D.l2i1 (e1.extBut _ _ D.l2z q)
    show wpAny _ _ (Builtin.SmallTypes.nextOf (.ref i2) >>= _) _ _ _
    exact wpAny_bind (nx_end hh a3 b3 hy fun g3 e e3 he => hE g3 e (fun c o c1 c2 c3 q => e3 _ _ c3 (e2.extBut _ _ c2 (e1.extBut _ _ c1 q))) he)
/-- its own pair is free -/
theorem is_free {z TI TO : Addr} {Q : Bool → Shared → Prop} (hz : Zo s.heap z TI TO .none false) (hQ : Q true s) : wpAny (model prog w) A (Builtin.SmallTypes.ownedTupleIsFree (.ref z)) Q E s := by
  unfold Builtin.SmallTypes.ownedTupleIsFree
  exact wpAny_bind (wpAny_field hz rfl (x := .none) rfl (wpAny_pure hQ))
/-- its next pair, its own one being free -/
theorem free_item {ka kb : Kd} {z TI TO i1 i2 l1 l2 : Addr} {n m : Nat} {xs ys : Array Value} {x y p0 p1 : Value} {Q : Value → Shared → Prop} (D : ZipApart z TI TO i1 i2 l1 l2)
    (hz : Zo s.heap z TI TO .none false) (hTI : IsPair s.heap TI (.ref i1) (.ref i2)) (hTO : IsPair s.heap TO p0 p1)
    (h1 : ka.It s.heap i1 l1 n) (h2 : kb.It s.heap i2 l2 m) (q1 : ka.Sq s.heap l1 xs) (q2 : kb.Sq s.heap l2 ys) (hx : xs[n]? = some x) (hy : ys[m]? = some y)
    (hQ : ∀ h', Zo h' z TI TO (rawInt s.heap.objs.size) false → IsPair h' TO x y → ka.It h' i1 l1 (n + 1) → kb.It h' i2 l2 (m + 1) → IsPair h' s.heap.objs.size x y → h'.objs.size = s.heap.objs.size + 1 →
      (∀ c o, c ≠ z → c ≠ TO → c ≠ i1 → c ≠ i2 → s.heap.get? c = some o → h'.get? c = some o) → Q (.ref s.heap.objs.size) { s with heap := h' }) :
    wpAny (model prog w) A (Builtin.«zip.__next__» ⟨[.ref z], []⟩) (fun fin s' => ∃ v, fin = .done (.ret v) ∧ Q v s') E s := by
  show wpAny _ _ (field (.ref z) 2 >>= _) _ _ _
  refine wpAny_bind (wpAny_field hz rfl (x := .bool false) rfl ?_)
  show wpAny _ _ (field (.ref z) 3 >>= _) _ _ _
  refine wpAny_bind (wpAny_field hz rfl (x := .ref TI) rfl (wpAny_bind (wpAny_seqItems hTI rfl ?_)))
  show wpAny _ _ (Builtin.SmallTypes.ownedTupleIsFree (.ref z) >>= _) _ _ _
  refine wpAny_bind (is_free hz ?_)
  rw [if_pos rfl]
  refine wpAny_bind (wpAny_rule (wpAny_bind (wpAny_field hz rfl (x := .ref TO) rfl (wpAny_bind (wpAny_setField_rec hz (by simp) fun g1 z1 e1 => ?_)))))
  have z1 : Zo g1 z TI TO .ellipsis false := z1
  refine wpAny_bind ?_
  simp only [List.zipIdx_cons, List.zipIdx_nil, List.forIn_cons, List.forIn_nil]
  refine wpAny_bind (wpAny_bind (wpAny_onRaise ?_))
  have a1 : ka.It g1 i1 l1 n := Kd.it_at h1 fun o q => e1.extBut _ _ D.i1z q
  have b1 : ka.Sq g1 l1 xs := Kd.sq_at q1 fun o q => e1.extBut _ _ D.l1z q
  show wpAny _ _ (Builtin.SmallTypes.nextOf (.ref i1) >>= _) _ _ _
  refine wpAny_bind (nx_item a1 b1 hx fun g2 a2 e2 => wpAny_pure ?_)
  have t2 : IsPair g2 TO p0 p1 := e2.extBut _ _ D.TOi1 (e1.extBut _ _ D.TOz hTO)
  refine wpAny_bind (wpAny_seqItems t2 rfl (wpAny_bind (wpAny_updateSeq_pair t2 fun g3 t3 e3 => wpAny_bind (wpAny_letGo (wpAny_pure ?_)))))
  have t3 : IsPair g3 TO x p1 := t3
  refine wpAny_bind (wpAny_bind (wpAny_onRaise ?_))
  have a3 : kb.It g3 i2 l2 m := Kd.it_at h2 fun o q => e3.extBut _ _ D.TOi2.symm (e2.extBut _ _ D.i12.symm (e1.extBut _ _ D.i2z q))
  have b3 : kb.Sq g3 l2 ys := Kd.sq_at q2 fun o q => e3.extBut _ _ D.l2TO (e2.extBut _ _ D.l2i1 (e1.extBut _ _ D.l2z q))
  show wpAny _ _ (Builtin.SmallTypes.nextOf (.ref i2) >>= _) _ _ _
  refine wpAny_bind (nx_item a3 b3 hy fun g4 a4 e4 => wpAny_pure ?_)
  have t4 : IsPair g4 TO x p1 := e4.extBut _ _ D.TOi2 t3
  refine wpAny_bind (wpAny_seqItems t4 rfl (wpAny_bind (wpAny_updateSeq_pair t4 fun g5 t5 e5 => wpAny_bind (wpAny_letGo (wpAny_pure (wpAny_pure ?_))))))
  have t5 : IsPair g5 TO x y := t5
  refine wpAny_bind (wpAny_seqItems t5 rfl (wpAny_bind (wpAny_newTuple ?_)))
  have sz : g5.objs.size = s.heap.objs.size := e5.1.trans (e4.1.trans (e3.1.trans (e2.1.trans e1.1)))
  have z5 : Zo g5 z TI TO .ellipsis false := e5.extBut _ _ D.TOz.symm (e4.extBut _ _ D.i2z.symm (e3.extBut _ _ D.TOz.symm (e2.extBut _ _ D.i1z.symm z1)))
  have kp : ∀ c o, c ≠ z → c ≠ TO → c ≠ i1 → c ≠ i2 → s.heap.get? c = some o → g5.get? c = some o := fun c o c1 c2 c3 c4 q =>
    e5.extBut _ _ c2 (e4.extBut _ _ c4 (e3.extBut _ _ c2 (e2.extBut _ _ c3 (e1.extBut _ _ c1 q))))
  have k1 : ka.It g5 i1 l1 (n + 1) := Kd.it_at a2 fun o q => e5.extBut _ _ D.TOi1.symm (e4.extBut _ _ D.i12 (e3.extBut _ _ D.TOi1.symm q))
  have k2 : kb.It g5 i2 l2 (m + 1) := Kd.it_at a4 fun o q => e5.extBut _ _ D.TOi2.symm q
  have zl : z < g5.objs.size := Heap.lt_size z5
  show wpAny _ _ (Builtin.SmallTypes.ownedTupleHandOut (.ref z) (.ref g5.objs.size) >>= _) _ _ _
  refine wpAny_bind ?_
  unfold Builtin.SmallTypes.ownedTupleHandOut
  have z6 : Zo (g5.push { cls := .type "tuple", data := .seq #[x, y] }) z TI TO .ellipsis false := Heap.get?_push_of_some _ z5
  refine wpAny_bind (wpAny_setField_rec z6 (by simp) fun g7 z7 e7 => wpAny_setField_rec (show Zo g7 z TI TO (rawInt g5.objs.size) false from z7) (by simp) fun g8 z8 e8 => wpAny_pure ⟨_, rfl, ?_⟩)
  have up : ∀ c o, c ≠ z → g5.get? c = some o → g8.get? c = some o := fun c o c1 q => e8.extBut _ _ c1 (e7.extBut _ _ c1 (Heap.get?_push_of_some _ q))
  have t8 : IsPair g8 g5.objs.size x y := e8.extBut _ _ (Nat.ne_of_gt zl) (e7.extBut _ _ (Nat.ne_of_gt zl) (Heap.get?_push_size _ rfl))
  have s8 : g8.objs.size = g5.objs.size + 1 := by rw [e8.1, e7.1, Heap.size_push]
  have z8 : Zo g8 z TI TO (rawInt g5.objs.size) false := z8
  show Q (.ref g5.objs.size) _
  rw [sz] at z8 t8 s8 ⊢
  exact hQ g8 z8 (up _ _ D.TOz t5) (Kd.it_at k1 fun o q => up _ o D.i1z q) (Kd.it_at k2 fun o q => up _ o D.i2z q) t8 s8 fun c o c1 c2 c3 c4 q => up c o c1 (kp c o c1 c2 c3 c4 q)
theorem free_end {ka kb : Kd} {z TI TO i1 i2 l1 l2 : Addr} {n m : Nat} {xs ys : Array Value} {p0 p1 : Value} {Q : PySem.Fin → Shared → Prop} (hh : A.handled = none) (D : ZipApart z TI TO i1 i2 l1 l2)
    (hz : Zo s.heap z TI TO .none false) (hTI : IsPair s.heap TI (.ref i1) (.ref i2)) (hTO : IsPair s.heap TO p0 p1)
    (h1 : ka.It s.heap i1 l1 n) (h2 : kb.It s.heap i2 l2 m) (q1 : ka.Sq s.heap l1 xs) (q2 : kb.Sq s.heap l2 ys) (hend : xs[n]? = none ∨ ys[m]? = none)
    (hE : ∀ h' e, (∀ c o, c ≠ z → c ≠ TO → c ≠ i1 → c ≠ i2 → s.heap.get? c = some o → h'.get? c = some o) → (∃ o, h'.get? e = some o ∧ o.cls = .type "StopIteration") → E (.ref e) { s with heap := h' }) :
    wpAny (model prog w) A (Builtin.«zip.__next__» ⟨[.ref z], []⟩) Q E s := by
  show wpAny _ _ (field (.ref z) 2 >>= _) _ _ _
  refine wpAny_bind (wpAny_field hz rfl (x := .bool false) rfl ?_)
  show wpAny _ _ (field (.ref z) 3 >>= _) _ _ _
  refine wpAny_bind (wpAny_field hz rfl (x := .ref TI) rfl (wpAny_bind (wpAny_seqItems hTI rfl ?_)))
  show wpAny _ _ (Builtin.SmallTypes.ownedTupleIsFree (.ref z) >>= _) _ _ _
  refine wpAny_bind (is_free hz ?_)
  rw [if_pos rfl]
  refine wpAny_bind (wpAny_rule (wpAny_bind (wpAny_field hz rfl (x := .ref TO) rfl (wpAny_bind (wpAny_setField_rec hz (by simp) fun g1 z1 e1 => ?_)))))
  have z1 : Zo g1 z TI TO .ellipsis false := z1
  refine wpAny_bind ?_
  simp only [List.zipIdx_cons, List.zipIdx_nil, List.forIn_cons, List.forIn_nil]
  refine wpAny_bind (wpAny_bind (wpAny_onRaise ?_))
  have a1 : ka.It g1 i1 l1 n := Kd.it_at h1 fun o q => e1.extBut _ _ D.i1z q
  have b1 : ka.Sq g1 l1 xs := Kd.sq_at q1 fun o q => e1.extBut _ _ D.l1z q
  show wpAny _ _ (Builtin.SmallTypes.nextOf (.ref i1) >>= _) _ _ _
  cases hx : xs[n]? with
  | none =>
    refine wpAny_bind (nx_end hh a1 b1 hx fun g2 e e2 ⟨oe, he, hc⟩ => ?_)
    have z2 : Zo g2 z TI TO .ellipsis false := e2 _ _ D.i1z.symm z1
    have ne : e ≠ z := fun q => by rw [q, z2] at he; cases he; simp at hc
    exact wpAny_setField_rec z2 (by simp) fun g3 _ e3 => hE g3 e (fun c o c1 _ c3 _ q => e3.extBut _ _ c1 (e2 _ _ c3 (e1.extBut _ _ c1 q))) ⟨oe, e3.extBut _ _ ne he, hc⟩
  | some x =>
    have hy : ys[m]? = none := hend.resolve_left fun q => by rw [hx] at q; cases q
    refine wpAny_bind (nx_item a1 b1 hx fun g2 a2 e2 => wpAny_pure ?_)
    have t2 : IsPair g2 TO p0 p1 := e2.extBut _ _ D.TOi1 (e1.extBut _ _ D.TOz hTO)
    refine wpAny_bind (wpAny_seqItems t2 rfl (wpAny_bind (wpAny_updateSeq_pair t2 fun g3 t3 e3 => wpAny_bind (wpAny_letGo (wpAny_pure ?_)))))
    refine wpAny_bind (wpAny_bind (wpAny_onRaise ?_))
    have a3 : kb.It g3 i2 l2 m := Kd.it_at h2 fun o q => e3.extBut _ _ D.TOi2.symm (e2.extBut _ _ D.i12.symm (e1.extBut _ _ D.i2z q))
    have b3 : kb.Sq g3 l2 ys := Kd.sq_at q2 fun o q => e3.extBut _ _ D.l2TO (e2.extBut _ _ D.l2i1 (e1.extBut _ _ D.l2z q))
    show wpAny _ _ (Builtin.SmallTypes.nextOf (.ref i2) >>= _) _ _ _
    refine wpAny_bind (nx_end hh a3 b3 hy fun g4 e e4 ⟨oe, he, hc⟩ => ?_)
    have z4 : Zo g4 z TI TO .ellipsis false := e4 _ _ D.i2z.symm (e3.extBut _ _ D.TOz.symm (e2.extBut _ _ D.i1z.symm z1))
    have ne : e ≠ z := fun q => by rw [q, z4] at he; cases he; simp at hc
    exact wpAny_setField_rec z4 (by simp) fun g5 _ e5 => hE g5 e (fun c o c1 c2 c3 c4 q => e5.extBut _ _ c1 (e4 _ _ c4 (e3.extBut _ _ c2 (e2.extBut _ _ c3 (e1.extBut _ _ c1 q))))) ⟨oe, e5.extBut _ _ ne he, hc⟩
end
end PKZ
namespace PKZ
open PySem PySem.Spec PyProof.Rows L2
/-- the pairs that were drawn, at their places -/
structure Prs (xs ys : Array Value) (lo : Addr) (h : Heap) (as : List Addr) : Prop where
  rise : as.Pairwise (· < ·)
  above : ∀ a ∈ as, lo ≤ a
  there : ∀ a ∈ as, a < h.objs.size
  at_ : ∀ (j : Nat) (a : Addr), as[j]? = some a → ∃ x y, xs[j]? = some x ∧ ys[j]? = some y ∧ IsPair h a x y
/-- a zip of two, i pairs drawn -/
structure ZSt (ka kb : Kd) (z TI TO i1 i2 l1 l2 : Addr) (xs ys : Array Value) (i : Nat) (h : Heap) : Prop where
  ti : IsPair h TI (.ref i1) (.ref i2)
  to : ∃ a b, IsPair h TO a b
  it1 : ka.It h i1 l1 i
  it2 : kb.It h i2 l2 i
  sq1 : ka.Sq h l1 xs
  sq2 : kb.Sq h l2 ys
  zo : Zo h z TI TO .none false ∨ ∃ (T0 : Addr) (o0 : Obj) (bb : Bool), Zo h z TI TO (rawInt T0) bb ∧ h.get? T0 = some o0 ∧ T0 ≠ z ∧ T0 ≠ TO ∧ T0 ≠ i1 ∧ T0 ≠ i2
section
variable {prog : Program} {w : World} {A : Around} {E : Value → Shared → Prop} {s : Shared} {ka kb : Kd} {z TI TO i1 i2 l1 l2 : Addr} {xs ys : Array Value} {i : Nat}
theorem ZSt.zip {h : Heap} (Z : ZSt ka kb z TI TO i1 i2 l1 l2 xs ys i h) : ∃ o, h.get? z = some o ∧ o.cls = .type "zip" := by
  rcases Z.zo with q | ⟨T0, o0, bb, q, _⟩
  · exact ⟨_, q, rfl⟩
  · exact ⟨_, q, rfl⟩
theorem ZSt.type {h : Heap} (Z : ZSt ka kb z TI TO i1 i2 l1 l2 xs ys i h) {s : Shared} (e : s.heap = h) : s.TypeIs (.ref z) "zip" := by
  obtain ⟨o, q, c⟩ := Z.zip
  exact ⟨o, by rw [e]; exact q, c⟩
theorem ZSt.keep {h h' : Heap} (Z : ZSt ka kb z TI TO i1 i2 l1 l2 xs ys i h) {S : Addr} (hS : S ≠ z ∧ S ≠ TI ∧ S ≠ TO ∧ S ≠ i1 ∧ S ≠ i2 ∧ S ≠ l1 ∧ S ≠ l2) (k : ∀ b o, b ≠ S → h.get? b = some o → h'.get? b = some o) (kS : ∀ o, h.get? S = some o → ∃ o', h'.get? S = some o') :
    ZSt ka kb z TI TO i1 i2 l1 l2 xs ys i h' := by
  obtain ⟨a, b, c, d, e, f, g⟩ := hS
  refine ⟨k _ _ b.symm Z.ti, ?_, Kd.it_at Z.it1 fun o q => k _ _ d.symm q, Kd.it_at Z.it2 fun o q => k _ _ e.symm q, Kd.sq_at Z.sq1 fun o q => k _ _ f.symm q, Kd.sq_at Z.sq2 fun o q => k _ _ g.symm q, ?_⟩
  · obtain ⟨u, v, q⟩ := Z.to
    exact ⟨u, v, k _ _ c.symm q⟩
  · rcases Z.zo with q | ⟨T0, o0, bb, q, q0, n1⟩
    · exact .inl (k _ _ a.symm q)
    · by_cases e0 : T0 = S
      · subst e0
        obtain ⟨o', q'⟩ := kS _ q0
        exact .inr ⟨T0, o', bb, k _ _ a.symm q, q', n1⟩
      · exact .inr ⟨T0, o0, bb, k _ _ a.symm q, k _ _ e0 q0, n1⟩
/-- a pair is drawn -/
theorem zst_item {x y : Value} {Q : Option Value → Shared → Prop} (D : ZipApart z TI TO i1 i2 l1 l2) (Z : ZSt ka kb z TI TO i1 i2 l1 l2 xs ys i s.heap) (hx : xs[i]? = some x) (hy : ys[i]? = some y)
    (hQ : ∀ h', ZSt ka kb z TI TO i1 i2 l1 l2 xs ys (i + 1) h' → IsPair h' s.heap.objs.size x y → h'.objs.size = s.heap.objs.size + 1 →
      (∀ c o, c ≠ z → c ≠ TO → c ≠ i1 → c ≠ i2 → s.heap.get? c = some o → h'.get? c = some o) → Q (some (.ref s.heap.objs.size)) { s with heap := h' }) :
    wpAny (model prog w) A (pyNext (.ref z)) Q E s := by
  have hT := Z.type (s := s) rfl
  obtain ⟨u, v, hTO⟩ := Z.to
  have zl : z < s.heap.objs.size := by obtain ⟨o, q, _⟩ := Z.zip; exact Heap.lt_size q
  have TOl : TO < s.heap.objs.size := Heap.lt_size hTO
  have i1l : i1 < s.heap.objs.size := by obtain ⟨o, q, _⟩ := Kd.it_get Z.it1; exact Heap.lt_size q
  have i2l : i2 < s.heap.objs.size := by obtain ⟨o, q, _⟩ := Kd.it_get Z.it2; exact Heap.lt_size q
  unfold pyNext
  refine wpAny_bind (wpAny_attempt (wpAny_callSpecial?_slot (name := Str.ofString "__next__") hT F.slot_zip_next (wpAny_call_entry F.slot_zip_next hT F.entry_zip_next ?_ (F.args_zip_next_1 _))))
  rcases Z.zo with q | ⟨T0, o0, bb, q, q0, n1, n2, n3, n4⟩
  · exact free_item D q Z.ti hTO Z.it1 Z.it2 Z.sq1 Z.sq2 hx hy fun h' c1 c2 c3 c4 c5 c6 c7 => wpAny_pure (hQ h' ⟨c7 _ _ D.TIz D.TITO D.TIi1 D.TIi2 Z.ti, ⟨_, _, c2⟩, c3, c4, Kd.sq_at Z.sq1 fun o p => c7 _ _ D.l1z D.l1TO D.l1i1 D.l1i2 p, Kd.sq_at Z.sq2 fun o p => c7 _ _ D.l2z D.l2TO D.l2i1 D.l2i2 p,
      .inr ⟨_, _, _, c1, c5, Nat.ne_of_gt zl, Nat.ne_of_gt TOl, Nat.ne_of_gt i1l, Nat.ne_of_gt i2l⟩⟩ c5 c6 c7)
  · exact held_item D q q0 Z.ti Z.it1 Z.it2 Z.sq1 Z.sq2 hx hy fun h' c1 c3 c4 c5 c6 c7 => wpAny_pure (hQ h' ⟨c7 _ _ D.TIz D.TIi1 D.TIi2 Z.ti, ⟨_, _, c7 _ _ D.TOz D.TOi1 D.TOi2 hTO⟩, c3, c4, Kd.sq_at Z.sq1 fun o p => c7 _ _ D.l1z D.l1i1 D.l1i2 p, Kd.sq_at Z.sq2 fun o p => c7 _ _ D.l2z D.l2i1 D.l2i2 p,
      .inr ⟨T0, o0, true, c1, c7 _ _ n1 n3 n4 q0, n1, n2, n3, n4⟩⟩ c5 c6 fun c o d1 _ d3 d4 p => c7 c o d1 d3 d4 p)
/-- one of the two is at its end -/
theorem zst_done {Q : Option Value → Shared → Prop} (hh : A.handled = none) (D : ZipApart z TI TO i1 i2 l1 l2) (Z : ZSt ka kb z TI TO i1 i2 l1 l2 xs ys i s.heap) (hend : xs[i]? = none ∨ ys[i]? = none)
    (hQ : ∀ h', (∀ c o, c ≠ z → c ≠ TO → c ≠ i1 → c ≠ i2 → s.heap.get? c = some o → h'.get? c = some o) → Q none { s with heap := h' }) : wpAny (model prog w) A (pyNext (.ref z)) Q E s := by
  have hT := Z.type (s := s) rfl
  obtain ⟨u, v, hTO⟩ := Z.to
  have stop : ∀ h' e, (∀ c o, c ≠ z → c ≠ TO → c ≠ i1 → c ≠ i2 → s.heap.get? c = some o → h'.get? c = some o) → (∃ o, h'.get? e = some o ∧ o.cls = .type "StopIteration") →
      wpAny (model prog w) A (do if (← isInstance (.ref e) (.type "StopIteration")) = true then pure none else throw (.ref e)) Q E { s with heap := h' } := fun h' e k ⟨o, ho, hc⟩ =>
    wpAny_bind (wpAny_isInstance (T := "StopIteration") (b := true) ⟨o, ho, hc⟩ isSubtype_stop (wpAny_pure (hQ _ k)))
  unfold pyNext
  refine wpAny_bind (wpAny_attempt (wpAny_callSpecial?_slot (name := Str.ofString "__next__") hT F.slot_zip_next (wpAny_call_entry F.slot_zip_next hT F.entry_zip_next ?_ (F.args_zip_next_1 _))))
  rcases Z.zo with q | ⟨T0, o0, bb, q, q0, n1, n2, n3, n4⟩
  · exact free_end hh D q Z.ti hTO Z.it1 Z.it2 Z.sq1 Z.sq2 hend stop
  · exact held_end hh D q q0 Z.ti Z.it1 Z.it2 Z.sq1 Z.sq2 hend fun h' e k => stop h' e fun c o d1 _ d3 d4 p => k c o d1 d3 d4 p
theorem zl_loop {S lo : Addr} (hh : A.handled = none) (D : ZipApart z TI TO i1 i2 l1 l2) (hS : S ≠ z ∧ S ≠ TI ∧ S ≠ TO ∧ S ≠ i1 ∧ S ≠ i2 ∧ S ≠ l1 ∧ S ≠ l2) (lowz : z < lo) (lowTO : TO < lo) (low1 : i1 < lo) (low2 : i2 < lo) (lowS : S < lo)
    (hn : min xs.size ys.size ≤ sizeLine) (res : Value) {h₁ : Heap} {R : Result → Shared → Prop}
    (hR : ∀ (h' : Heap) (acc : Array Value) (c : Nat) (as : List Addr), (∀ b o, b ≠ S → b ≠ z → b ≠ TO → b ≠ i1 → b ≠ i2 → h₁.get? b = some o → h'.get? b = some o) → h'.get? S = some { cls := .type "list", dict := none, data := .seq acc c, slots := #[] } → as.length = min xs.size ys.size → Prs xs ys lo h' as →
      acc.toList = as.map Value.ref → R (.ok (.ret res)) { s with heap := h' }) :
    ∀ (k i : Nat) (h : Heap) (c : Nat) (acc : Array Value) (as : List Addr), min xs.size ys.size - i = k → i ≤ min xs.size ys.size → ZSt ka kb z TI TO i1 i2 l1 l2 xs ys i h → (∀ b o, b ≠ S → b ≠ z → b ≠ TO → b ≠ i1 → b ≠ i2 → h₁.get? b = some o → h.get? b = some o) →
      h.get? S = some { cls := .type "list", dict := none, data := .seq acc c, slots := #[] } → acc.toList = as.map Value.ref → as.length = i → Prs xs ys lo h as → lo ≤ h.objs.size →
      codeAny (model prog w) A (.builtin "list.extend.loop" ⟨[.ref S, .ref z, res], []⟩) R { s with heap := h } := by
  intro k
  induction k with
  | zero =>
    intro i h c acc as hk hi Z kp hSo ha hl G hlo
    have hin : i = min xs.size ys.size := by omega
    refine codeAny_builtin F.entry_extend_loop ?_
    (rw [Around.under_plainId F.plain_extend_loop])
    show wpAny _ A.in1 (pyNext (.ref z) >>= _) _ _ _
    have hend : xs[i]? = none ∨ ys[i]? = none := by
      rcases Nat.le_total xs.size ys.size with q | q
      · exact .inl (Array.getElem?_eq_none (by omega))
      · exact .inr (Array.getElem?_eq_none (by omega))
    refine wpAny_bind (zst_done (s := { s with heap := h }) (A := A.in1) hh D Z hend fun h' e => wpAny_pure (hR h' acc c as (fun b o b1 b2 b3 b4 b5 q => e b o b2 b3 b4 b5 (kp b o b1 b2 b3 b4 b5 q)) (e S _ hS.1 hS.2.2.1 hS.2.2.2.1 hS.2.2.2.2.1 hSo) (by omega) ⟨G.rise, G.above, fun a q => ?_, fun j a q => ?_⟩ ha))
    · obtain ⟨j, hj, rfl⟩ := List.getElem_of_mem q
      obtain ⟨x, y, _, _, p⟩ := G.at_ j _ (List.getElem?_eq_getElem hj)
      have lo_a := G.above _ (List.getElem_mem hj)
      exact Heap.lt_size (e _ _ (Nat.ne_of_gt (Nat.lt_of_lt_of_le lowz lo_a)) (Nat.ne_of_gt (Nat.lt_of_lt_of_le lowTO lo_a)) (Nat.ne_of_gt (Nat.lt_of_lt_of_le low1 lo_a)) (Nat.ne_of_gt (Nat.lt_of_lt_of_le low2 lo_a)) p)
    · obtain ⟨x, y, e1, e2, p⟩ := G.at_ j a q
      have lo_a := G.above _ (List.mem_of_getElem? q)
      exact ⟨x, y, e1, e2, e _ _ (Nat.ne_of_gt (Nat.lt_of_lt_of_le lowz lo_a)) (Nat.ne_of_gt (Nat.lt_of_lt_of_le lowTO lo_a)) (Nat.ne_of_gt (Nat.lt_of_lt_of_le low1 lo_a)) (Nat.ne_of_gt (Nat.lt_of_lt_of_le low2 lo_a)) p⟩
  | succ k ih =>
    intro i h c acc as hk hi Z kp hSo ha hl G hlo
    have ix : i < xs.size := by omega
    have iy : i < ys.size := by omega
    have hsz : acc.size = i := by rw [← Array.length_toList, ha, List.length_map, hl]
    refine codeAny_builtin F.entry_extend_loop ?_
    (rw [Around.under_plainId F.plain_extend_loop])
    show wpAny _ A.in1 (pyNext (.ref z) >>= _) _ _ _
    refine wpAny_bind (zst_item (s := { s with heap := h }) (A := A.in1) D Z (Array.getElem?_eq_getElem ix) (Array.getElem?_eq_getElem iy) fun h' Z' p sz e => ?_)
    dsimp only at p sz e ⊢
    have hS' := e S _ hS.1 hS.2.2.1 hS.2.2.2.1 hS.2.2.2.2.1 hSo
    have up : ∀ b o, b ≠ S → h'.get? b = some o → (h'.update S (Obj.mapSeq (·.push (Value.ref h.objs.size)))).get? b = some o := fun b o hb q => (Heap.get?_update_other _ _ (Ne.symm hb)).trans q
    have upS : ∀ o, h'.get? S = some o → ∃ o', (h'.update S (Obj.mapSeq (·.push (Value.ref h.objs.size)))).get? S = some o' := fun o q => ⟨_, Heap.get?_update_self _ hS' rfl⟩
    have Sl : S < h.objs.size := Heap.lt_size hSo
    have far : ∀ a, lo ≤ a → a ≠ z ∧ a ≠ TO ∧ a ≠ i1 ∧ a ≠ i2 ∧ a ≠ S := fun a q => ⟨Nat.ne_of_gt (Nat.lt_of_lt_of_le lowz q), Nat.ne_of_gt (Nat.lt_of_lt_of_le lowTO q), Nat.ne_of_gt (Nat.lt_of_lt_of_le low1 q), Nat.ne_of_gt (Nat.lt_of_lt_of_le low2 q), Nat.ne_of_gt (Nat.lt_of_lt_of_le lowS q)⟩
    have us : (h'.update S (Obj.mapSeq (·.push (Value.ref h.objs.size)))).objs.size = h'.objs.size := Heap.size_update ..
    show wpAny _ A.in1 (updateSeq S (·.push (Value.ref h.objs.size)) >>= _) _ _ _
    refine wpAny_bind (wpAny_updateSeq hS' rfl (wpAny_pure ⟨plainId_quiet F.plain_extend_loop _, ih (i + 1) _ _ (acc.push (Value.ref h.objs.size)) (as ++ [h.objs.size]) (by omega) (by omega) (Z'.keep hS up upS) (fun b o b1 b2 b3 b4 b5 q => up b o b1 (e b o b2 b3 b4 b5 (kp b o b1 b2 b3 b4 b5 q)))
      (Heap.get?_update_self _ hS' rfl) (by rw [Array.toList_push, ha, List.map_append]; rfl) (by rw [List.length_append, hl]; rfl) ⟨?_, ?_, ?_, ?_⟩ ?_⟩) ?_)
    · refine List.pairwise_append.mpr ⟨G.rise, List.pairwise_singleton _ _, fun a q b q2 => ?_⟩
      rw [List.mem_singleton.mp q2]
      exact G.there a q
    · intro a q
      rcases List.mem_append.mp q with q | q
      · exact G.above a q
      · rw [List.mem_singleton.mp q]; exact hlo
    · intro a q
      rw [us, sz]
      rcases List.mem_append.mp q with q | q
      · exact Nat.lt_succ_of_lt (G.there a q)
      · rw [List.mem_singleton.mp q]; exact Nat.lt_succ_self _
    · intro j b q
      by_cases hj : j < as.length
      · rw [List.getElem?_append_left hj] at q
        obtain ⟨x, y, e1, e2, e3⟩ := G.at_ j b q
        obtain ⟨f1, f2, f3, f4, f5⟩ := far b (G.above b (List.mem_of_getElem? q))
        exact ⟨x, y, e1, e2, up b _ f5 (e b _ f1 f2 f3 f4 e3)⟩
      · have hj2 : j = as.length := by
          have := (List.getElem?_eq_some_iff.mp q).1
          rw [List.length_append] at this
          have : j < as.length + 1 := this
          omega
        subst hj2
        have : h.objs.size = b := by simpa using q
        subst this
        exact ⟨xs[i], ys[i], by rw [hl]; exact Array.getElem?_eq_getElem ix, by rw [hl]; exact Array.getElem?_eq_getElem iy, up _ _ (Nat.ne_of_gt Sl) p⟩
    · rw [us, sz]; exact Nat.le_succ_of_le hlo
    · rw [hsz]; omega
theorem zip_nolen : typeLookup (.type "zip") "__len__" = pure none := by
  rw [typeLookup_type, builtinLookup_eq_fast]; kernel_rfl
theorem zip_nohint : typeLookup (.type "zip") "__length_hint__" = pure none := by
  rw [typeLookup_type, builtinLookup_eq_fast]; kernel_rfl
/-- list(zip(..)), S the new list -/
theorem zl_call {Q : Value → Shared → Prop} (hh : A.handled = none) (D : ZipApart z TI TO i1 i2 l1 l2) (Z : ZSt ka kb z TI TO i1 i2 l1 l2 xs ys 0 s.heap) (lTI : TI < s.heap.objs.size) (l1l : l1 < s.heap.objs.size) (l2l : l2 < s.heap.objs.size)
    (hn : min xs.size ys.size ≤ sizeLine)
    (hQ : ∀ (h' : Heap) (acc : Array Value) (c : Nat) (as : List Addr), (∀ b o, b ≠ z → b ≠ TO → b ≠ i1 → b ≠ i2 → s.heap.get? b = some o → h'.get? b = some o) → h'.get? s.heap.objs.size = some { cls := .type "list", dict := none, data := .seq acc c, slots := #[] } →
      as.length = min xs.size ys.size → Prs xs ys (s.heap.objs.size + 1) h' as → acc.toList = as.map Value.ref → Q (.ref s.heap.objs.size) { s with heap := h' }) :
    wpAny (model prog w) A (call (.type "list") [.ref z]) Q E s := by
  have zl : z < s.heap.objs.size := by obtain ⟨o, q, _⟩ := Z.zip; exact Heap.lt_size q
  have TOl : TO < s.heap.objs.size := by obtain ⟨_, _, q⟩ := Z.to; exact Heap.lt_size q
  have i1l : i1 < s.heap.objs.size := by obtain ⟨o, q, _⟩ := Kd.it_get Z.it1; exact Heap.lt_size q
  have i2l : i2 < s.heap.objs.size := by obtain ⟨o, q, _⟩ := Kd.it_get Z.it2; exact Heap.lt_size q
  refine callType_codes (Q₁ := fun obj s₁ => obj = .ref s.heap.objs.size ∧ s₁ = { s with heap := s.heap.push { cls := .type "list", data := .seq #[] } }) F.called_list (F.typeCall_list_1 _) F.entry_list_init (code_list_new _ ⟨rfl, rfl⟩) fun obj s₁ h₁ => ?_
  obtain ⟨rfl, rfl⟩ := h₁
  have hS0 : (s.heap.push { cls := .type "list", data := .seq #[] }).get? s.heap.objs.size = some { cls := .type "list", data := .seq #[] } := Heap.get?_push_size _ rfl
  have hS : s.heap.objs.size ≠ z ∧ s.heap.objs.size ≠ TI ∧ s.heap.objs.size ≠ TO ∧ s.heap.objs.size ≠ i1 ∧ s.heap.objs.size ≠ i2 ∧ s.heap.objs.size ≠ l1 ∧ s.heap.objs.size ≠ l2 :=
    ⟨Nat.ne_of_gt zl, Nat.ne_of_gt lTI, Nat.ne_of_gt TOl, Nat.ne_of_gt i1l, Nat.ne_of_gt i2l, Nat.ne_of_gt l1l, Nat.ne_of_gt l2l⟩
  refine ⟨⟨_, hS0, rfl⟩, F.args_list_init_2 _ _, ?_⟩
  generalize hs : s.heap.objs.size = S at hS0 hS hQ ⊢
  show wpAny _ _ (do let old ← Builtin.List.listItems (.ref S); Builtin.List.listUpdate (.ref S) (fun _ => #[]); letGo old.toList.reverse; Builtin.List.listExtendWith (.ref S) (.ref z) .none) _ _ _
  unfold Builtin.List.listItems
  refine wpAny_bind (wpAny_bind (wpAny_seqItems hS0 rfl (wpAny_pure ?_)))
  show wpAny _ _ (updateSeq S (fun _ => #[]) >>= fun _ => letGo (#[] : Array Value).toList.reverse >>= fun _ => Builtin.List.listExtendWith (.ref S) (.ref z) .none) _ _ _
  refine wpAny_bind (wpAny_updateSeq hS0 rfl (wpAny_bind (wpAny_letGo ?_)))
  have hS1 := Heap.get?_update_self (Obj.mapSeq (fun _ => (#[] : Array Value))) hS0 rfl
  have up1 : ∀ b o, b ≠ S → (s.heap.push { cls := .type "list", data := .seq #[] }).get? b = some o → ((s.heap.push { cls := .type "list", data := .seq #[] }).update S (Obj.mapSeq (fun _ => (#[] : Array Value)))).get? b = some o := fun b o hb q => (Heap.get?_update_other _ _ (Ne.symm hb)).trans q
  have Z1 : ZSt ka kb z TI TO i1 i2 l1 l2 xs ys 0 (s.heap.push { cls := .type "list", data := .seq #[] }) := Z.keep hS (fun b o _ q => Heap.get?_push_of_some _ q) fun o q => ⟨_, hS0⟩
  have Z2 := Z1.keep hS up1 fun o q => ⟨_, hS1⟩
  have base : ∀ b o, b ≠ S → b ≠ z → b ≠ TO → b ≠ i1 → b ≠ i2 → s.heap.get? b = some o → ((s.heap.push { cls := .type "list", data := .seq #[] }).update S (Obj.mapSeq (fun _ => (#[] : Array Value)))).get? b = some o := fun b o b1 _ _ _ _ q => up1 b o b1 (Heap.get?_push_of_some _ q)
  have sz1 : ((s.heap.push { cls := .type "list", data := .seq #[] }).update S (Obj.mapSeq (fun _ => (#[] : Array Value)))).objs.size = S + 1 := by rw [Heap.size_update, Heap.size_push, hs]
  generalize (s.heap.push { cls := .type "list", data := .seq #[] }).update S (Obj.mapSeq (fun _ => (#[] : Array Value))) = g at Z2 hS1 base sz1 ⊢
  unfold Builtin.List.listExtendWith
  refine wpAny_bind (wpAny_typeOf (T := "zip") (Z2.type rfl) ?_)
  have n1 : Builtin.List.listSameRef (.ref S) (.ref z) = false := by simp [Builtin.List.listSameRef, hS.1]
  have n2 : (Value.type "zip" == Value.type "list") = false := by decide
  have n3 : (Value.type "zip" == Value.type "tuple") = false := by decide
  simp only [n1, n2, n3, Bool.or_false, Bool.false_eq_true, if_false]
  have itr : ∀ {M : Around} {E' : Value → Shared → Prop} {Q' : Value → Shared → Prop} {s' : Shared}, s'.heap = g → Q' (.ref z) s' → wpAny (model prog w) M (pyIter (.ref z)) Q' E' s' := fun {M E' Q' s'} e q => by
    refine wpAny_pyIter_slot (Z2.type e) F.slot_zip_iter (wpAny_call_entry F.slot_zip_iter (Z2.type e) F.entry_zip_iter ?_ (F.args_zip_iter_1 _))
    show wpAny _ _ (ret (.ref z)) _ _ s'
    exact wpAny_pure ⟨_, rfl, "zip", _, Z2.type e, F.slot_zip_next.lookup, q⟩
  refine wpAny_bind (itr rfl (wpAny_bind (wpAny_holding ?_)))
  unfold Builtin.List.listLengthHint
  refine wpAny_bind (wpAny_specialOf (Z2.type rfl) zip_nolen ?_)
  show wpAny _ _ (specialOf (Value.ref z) (Str.ofString "__length_hint__") >>= _) _ _ _
  refine wpAny_bind (wpAny_specialOf (Z2.type rfl) zip_nohint (wpAny_pure ?_))
  rw [Bool.true_or, if_pos rfl]
  refine wpAny_bind (wpAny_rule (wpAny_bind ?_))
  show wpAny _ _ (updateSeq S (·.push .none) >>= fun _ => updateSeq S (·.pop)) _ _ _
  have hS2 := Heap.get?_update_self (Obj.mapSeq (·.push Value.none)) hS1 rfl
  refine wpAny_bind (wpAny_updateSeq hS1 rfl (wpAny_updateSeq (hz := by seq_fits) hS2 rfl ?_))
  have hS3 := Heap.get?_update_self (Obj.mapSeq (·.pop)) hS2 rfl
  have up3 : ∀ b o, b ≠ S → g.get? b = some o → ((g.update S (Obj.mapSeq (·.push Value.none))).update S (Obj.mapSeq (·.pop))).get? b = some o := fun b o hb q => (Heap.get?_update_other _ _ (Ne.symm hb)).trans ((Heap.get?_update_other _ _ (Ne.symm hb)).trans q)
  have sz3 : ((g.update S (Obj.mapSeq (·.push Value.none))).update S (Obj.mapSeq (·.pop))).objs.size = S + 1 := by rw [Heap.size_update, Heap.size_update, sz1]
  refine wpAny_pure ⟨plainId_quiet F.plain_extend_loop _, ?_⟩
  refine zl_loop (A := A.in1) (s := s) (h₁ := s.heap) (lo := S + 1) hh D hS (Nat.lt_succ_of_lt (hs ▸ zl)) (Nat.lt_succ_of_lt (hs ▸ TOl)) (Nat.lt_succ_of_lt (hs ▸ i1l)) (Nat.lt_succ_of_lt (hs ▸ i2l)) (Nat.lt_succ_self _) hn .none (fun h' acc c as k1 k2 k3 k4 k5 => ⟨rfl, hQ h' acc c as (fun b o b2 b3 b4 b5 q => ?_) k2 k3 k4 k5⟩)
    _ 0 _ _ #[] [] rfl (Nat.zero_le _) (Z2.keep hS up3 fun o q => ⟨_, hS3⟩) (fun b o b1 b2 b3 b4 b5 q => up3 b o b1 (base b o b1 b2 b3 b4 b5 q)) hS3 rfl rfl ⟨List.Pairwise.nil, (fun _ q => nomatch q), (fun _ q => nomatch q), fun j a q => by simp at q⟩ (by rw [sz3]; exact Nat.le_refl _)
  have := Heap.lt_size q
  exact k1 b o (Nat.ne_of_lt (hs ▸ this)) b2 b3 b4 b5 q
end
end PKZ
namespace PKZ
open PySem PySem.Spec PyProof.Rows L2
def Kd.nm : Kd → String
  | .l => "list_iterator"
  | .t => "tuple_iterator"
abbrev itO (kd : Kd) (a : Addr) : Obj := { cls := .type kd.nm, data := .fields #[.ref a, .int 0 0] }
abbrev zg1 (ka : Kd) (h : Heap) (a : Addr) : Heap := h.push (itO ka a)
abbrev zg2 (ka kb : Kd) (h : Heap) (a b : Addr) : Heap := (zg1 ka h a).push (itO kb b)
abbrev zg3 (ka kb : Kd) (h : Heap) (a b : Addr) : Heap := (zg2 ka kb h a b).push { cls := .type "tuple", data := .seq #[.ref h.objs.size, .ref (zg1 ka h a).objs.size] }
abbrev zg4 (ka kb : Kd) (h : Heap) (a b : Addr) : Heap := (zg3 ka kb h a b).push { cls := .type "tuple", data := .seq #[.none, .none] }
abbrev zg5 (ka kb : Kd) (h : Heap) (a b : Addr) : Heap := (zg4 ka kb h a b).push { cls := .type "zip", data := .fields #[.none, .bool false, .bool false, .ref (zg2 ka kb h a b).objs.size, .ref (zg3 ka kb h a b).objs.size] }
theorem Kd.sq_push {kd : Kd} {h : Heap} {a : Addr} {xs : Array Value} {o : Obj} (q : kd.Sq h a xs) : kd.Sq (h.push o) a xs := Kd.sq_at q fun _ e => Heap.get?_push_of_some _ e
theorem Kd.sq_lt {kd : Kd} {h : Heap} {a : Addr} {xs : Array Value} (q : kd.Sq h a xs) : a < h.objs.size := by
  cases kd with
  | l => obtain ⟨o, e, _⟩ := q; exact Heap.lt_size e
  | t => obtain ⟨o, e, _⟩ := q; exact Heap.lt_size e
theorem pyIter_kd {prog : Program} {w : World} {A : Around} {E : Value → Shared → Prop} {s : Shared} {kd : Kd} {a : Addr} {xs : Array Value} {Q : Value → Shared → Prop} (q : kd.Sq s.heap a xs)
    (h : Q (.ref s.heap.objs.size) { s with heap := s.heap.push (itO kd a) }) : wpAny (model prog w) A (pyIter (.ref a)) Q E s := by
  cases kd with
  | l => exact wpAny_pyIter_list q h
  | t => exact wpAny_pyIter_tuple q h
theorem meets_zg (ka kb : Kd) (a b : Addr) (xs ys : Array Value) :
    Meets (Builtin.«zip.__new__» ⟨[.type "zip", .ref a, .ref b], []⟩) (fun _ R s => ka.Sq s.heap a xs ∧ kb.Sq s.heap b ys ∧ R (.ok (.ret (.ref (zg4 ka kb s.heap a b).objs.size))) { s with heap := zg5 ka kb s.heap a b }) :=
  .of_wp fun prog w A R s h => by
    obtain ⟨hp, g, d, tk, os⟩ := s
    obtain ⟨h1, h2, h⟩ := h
    have hsub := sub_zip
    have p1 : ka.Sq (Shared.heap ⟨hp, g, d, tk, os⟩) a xs := h1
    have p2 : kb.Sq (Shared.heap ⟨hp.push (itO ka a), g, d, tk, os⟩) b ys := Kd.sq_push h2
    wp_walk using pyIter_kd p1, pyIter_kd p2
    exact ⟨_, rfl, h⟩
section
variable {prog : Program} {w : World} {A : Around} {E : Value → Shared → Prop} {s : Shared}
/-- zip(a, b) -/
theorem call_zg {ka kb : Kd} {a b : Addr} {xs ys : Array Value} {Q : Value → Shared → Prop} (h1 : ka.Sq s.heap a xs) (h2 : kb.Sq s.heap b ys)
    (hQ : ∀ h', ZSt ka kb (s.heap.objs.size + 4) (s.heap.objs.size + 2) (s.heap.objs.size + 3) s.heap.objs.size (s.heap.objs.size + 1) a b xs ys 0 h' → Zo h' (s.heap.objs.size + 4) (s.heap.objs.size + 2) (s.heap.objs.size + 3) .none false → h'.objs.size = s.heap.objs.size + 5 →
      (∀ c o, s.heap.get? c = some o → h'.get? c = some o) → Q (.ref (s.heap.objs.size + 4)) { s with heap := h' }) :
    wpAny (model prog w) A (call (.type "zip") [.ref a, .ref b]) Q E s := by
  refine callType_new F.called_zip (by decide) (F.typeCall_zip_2 _ _) (F.newCall_zip_2 _ _) (fun obj => F.args_object_init_3 obj _ _) F.entry_zip_new (meets_zg ka kb a b xs ys) ⟨h1, h2, ?_⟩
  have z1 : (zg1 ka s.heap a).objs.size = s.heap.objs.size + 1 := Heap.size_push ..
  have z2 : (zg2 ka kb s.heap a b).objs.size = s.heap.objs.size + 2 := by rw [Heap.size_push, z1]
  have z3 : (zg3 ka kb s.heap a b).objs.size = s.heap.objs.size + 3 := by rw [Heap.size_push, z2]
  have z4 : (zg4 ka kb s.heap a b).objs.size = s.heap.objs.size + 4 := by rw [Heap.size_push, z3]
  have z5 : (zg5 ka kb s.heap a b).objs.size = s.heap.objs.size + 5 := by rw [Heap.size_push, z4]
  have kp : ∀ c o, s.heap.get? c = some o → (zg5 ka kb s.heap a b).get? c = some o := fun c o e =>
    Heap.get?_push_of_some _ (Heap.get?_push_of_some _ (Heap.get?_push_of_some _ (Heap.get?_push_of_some _ (Heap.get?_push_of_some _ e))))
  have o5 : (zg5 ka kb s.heap a b).get? (zg4 ka kb s.heap a b).objs.size = some _ := Heap.get?_push_size _ rfl
  have o4 : (zg5 ka kb s.heap a b).get? (zg3 ka kb s.heap a b).objs.size = some _ := Heap.get?_push_of_some _ (Heap.get?_push_size _ rfl)
  have o3 : (zg5 ka kb s.heap a b).get? (zg2 ka kb s.heap a b).objs.size = some _ := Heap.get?_push_of_some _ (Heap.get?_push_of_some _ (Heap.get?_push_size _ rfl))
  have o2 : (zg5 ka kb s.heap a b).get? (zg1 ka s.heap a).objs.size = some (itO kb b) := Heap.get?_push_of_some _ (Heap.get?_push_of_some _ (Heap.get?_push_of_some _ (Heap.get?_push_size _ rfl)))
  have o1 : (zg5 ka kb s.heap a b).get? s.heap.objs.size = some (itO ka a) := Heap.get?_push_of_some _ (Heap.get?_push_of_some _ (Heap.get?_push_of_some _ (Heap.get?_push_of_some _ (Heap.get?_push_size _ rfl))))
  have it : ∀ (kd : Kd) (i c : Addr), (zg5 ka kb s.heap a b).get? i = some (itO kd c) → kd.It (zg5 ka kb s.heap a b) i c 0 := fun kd i c e => by
    cases kd with
    | l => exact ⟨_, e, rfl, rfl⟩
    | t => exact ⟨_, e, rfl, rfl⟩
  rw [z2, z3, z4] at o5
  rw [z1, z2] at o3
  rw [z3] at o4
  rw [z1] at o2
  show _ ∧ _
  rw [z4]
  exact ⟨⟨_, o5, rfl⟩, hQ _ ⟨o3, ⟨_, _, o4⟩, it _ _ _ o1, it _ _ _ o2, Kd.sq_at h1 fun o e => kp _ _ e, Kd.sq_at h2 fun o e => kp _ _ e, .inl o5⟩ o5 z5 kp⟩
end
/-- the heap has grown, some of the new objects are tracked -/
theorem inv_grow {X : Cx} {pins : List (Addr × Obj)} {σ : L2.St} {H H' : Hp} {s : Shared} {h' : Heap} {tk : Nat} (I : Inv X pins σ H s) (hk : ∀ b o, s.heap.get? b = some o → h'.get? b = some o) (kp : ∀ b u, H b = some u → H' b = some u)
    (nn : ∀ b o, s.heap.get? b = some o → H b = none → H' b = none) (hok : ∀ b u, H' b = some u → H b = some u ∨ ObjOk X.prog X.w H' h' b u) : Inv X pins σ H' { s with heap := h', toks := tk } := by
  refine I.call' (ch := []) rfl ⟨fun b o q _ _ _ => hk b o q, fun b o q _ _ _ => ⟨o.slots, hk b o q⟩, fun b o q n _ => nn b o q n, fun b o q _ => ⟨o, hk b o q⟩, fun b xs q => kp b _ q, fun b o u q => kp b _ q, fun b ps q => ⟨#[], by rw [kp b _ q]; simp⟩⟩ (fun b u q => ?_) I.bare fun b z => nomatch z
  rcases hok b u q with e | e
  · exact (I.hok b u e).stay (fun d v _ y => hk d v y) (fun d y => kp d _ y) fun d xs y => kp d _ y
  · exact e
/-- pairs tracked at their places -/
def putP : Hp → List Addr → List V → List V → Hp
  | H, a :: as, x :: xs, y :: ys => putP (upd H a (.tup [x, y])) as xs ys
  | H, _, _, _ => H
theorem putP_off {b : Addr} : ∀ (as : List Addr) (xs ys : List V) (H : Hp), b ∉ as → putP H as xs ys b = H b
  | [], _, _, _, _ => rfl
  | _ :: _, [], _, _, _ => rfl
  | _ :: _, _ :: _, [], _, _ => rfl
  | a :: as, x :: xs, y :: ys, H, h => by
    show putP (upd H a (.tup [x, y])) as xs ys b = H b
    rw [putP_off as xs ys _ (fun z => h (List.mem_cons_of_mem _ z)), upd_ne (fun z => h (by rw [z]; exact List.mem_cons_self))]
theorem putP_at : ∀ (as : List Addr) (xs ys : List V) (H : Hp), as.length ≤ xs.length → as.length ≤ ys.length → as.Nodup → ∀ (j : Nat) (a : Addr), as[j]? = some a → ∃ x y, xs[j]? = some x ∧ ys[j]? = some y ∧ putP H as xs ys a = some (.tup [x, y])
  | [], _, _, _, _, _, _, _, _, e => by simp at e
  | _ :: _, [], _, _, h, _, _, _, _, _ => by simp at h
  | _ :: _, _ :: _, [], _, _, h, _, _, _, _ => by simp at h
  | a :: as, x :: xs, y :: ys, H, h1, h2, hn, 0, b, e => by
    have e : a = b := by simpa using e
    subst e
    refine ⟨x, y, rfl, rfl, ?_⟩
    show putP (upd H a (.tup [x, y])) as xs ys a = _
    rw [putP_off as xs ys _ (List.nodup_cons.mp hn).1, upd_same]
  | a :: as, x :: xs, y :: ys, H, h1, h2, hn, j + 1, b, e => by
    obtain ⟨u, v, e1, e2, e3⟩ := putP_at as xs ys (upd H a (.tup [x, y])) (Nat.le_of_succ_le_succ h1) (Nat.le_of_succ_le_succ h2) (List.nodup_cons.mp hn).2 j b (by simpa using e)
    exact ⟨u, v, by simpa using e1, by simpa using e2, e3⟩
theorem refs_vals : ∀ as : List Addr, Vals (as.map V.ref) (as.map Value.ref)
  | [] => .nil
  | _ :: as => .cons rfl (refs_vals as)
def Sq2 (K : PySem.W.Frag) (H : Hp) (a : Addr) (xs : List V) : Prop := SqL K H a xs ∨ SqT K H a xs
theorem sq_of {X : Cx} {pins : List (Addr × Obj)} {σ : L2.St} {H : Hp} {s : Shared} {a : Addr} {xs : List V} (I : Inv X pins σ H s) (q : Sq2 X.K H a xs) : ∃ (kd : Kd) (its : List Value), Vals xs its ∧ kd.Sq s.heap a its.toArray := by
  rcases q with q | q
  · obtain ⟨its, rv, p, _⟩ := I.list q
    exact ⟨.l, its, rv, p.isList⟩
  · obtain ⟨its, rv, p, _⟩ := I.tuple q
    exact ⟨.t, its, rv, p⟩
def rListZip (K : PySem.W.Frag) : List V → Hp → VK → Prop := fun vs H Q => ∃ (a b : Addr) (xs ys : List V), vs = [.ref a, .ref b] ∧ Sq2 K H a xs ∧ Sq2 K H b ys ∧ min xs.length ys.length ≤ sizeLine ∧
  ∀ (H' : Hp) (p : Addr) (ts : List Addr), (∀ b o, H b = some o → H' b = some o) → H p = none → (∀ t ∈ ts, H t = none) → ts.length = min xs.length ys.length → H' p = some (.lst (ts.map V.ref)) →
    (∀ (j : Nat) (t : Addr), ts[j]? = some t → ∃ x y, xs[j]? = some x ∧ ys[j]? = some y ∧ H' t = some (.tup [x, y])) → Q (.ref p) H'
def tListZip (K : PySem.W.Frag) (ta : TA) : TE := fun σ H Q => ta σ H fun vs H1 => rListZip K vs H1 Q
/-- list(zip(e, e2)) -/
theorem pe_listZip {X : Cx} {e e2 : Expr} {ta : TA} {p p2 pos pos2 : Pos} (hc : X.calm = true) (hg : Gl X "list") (hm : X.mg "list" = none) (hv : bootBuiltins "list" = some (.type "list")) (hg2 : Gl X "zip") (hm2 : X.mg "zip" = none) (ha : PA X [e, e2] ta)
    (hs : starEach [.Call (.Name "zip" p2) [e, e2] [] pos2] X.env = (false, eval (.Call (.Name "zip" p2) [e, e2] [] pos2) X.env) :: starEach [] X.env := by rfl)
    (hs2 : starEach [e, e2] X.env = (false, eval e X.env) :: starEach [e2] X.env := by rfl) (hpl : (backTo pos2 (starEach [e2] X.env)).any (·.1) = false := by rfl) :
    PE X (.Call (.Name "list" p) [.Call (.Name "zip" p2) [e, e2] [] pos2] [] pos) (tListZip X.K ta) := by
  refine ⟨fun pins s σ H Q I hq => ?_⟩
  refine wpAny_Call_Name_kw (ld_blt I hg hm hv (PyProof.Rows.callWith_type1 ?_ hs rfl))
  rw [hs]
  show wpAny _ _ (spliced ((false, eval (.Call (.Name "zip" p2) [e, e2] [] pos2) X.env) :: backTo pos (starEach [] X.env))) _ _ s
  refine Calls.spliced_cons (Call_ (ld_blt I hg2 hm2 PyProof.Rows.boot_zip (PyProof.Rows.callWith_type1 (thn (ha.run pos2 pins s σ H _ I hq) fun us s1 ⟨vs, H1, I1, r1, q1⟩ => ?_) hs2 hpl)))
  obtain ⟨a, b, xs, ys, rfl, qa, qb, hmin, q⟩ := q1
  obtain ⟨u, us, rfl, ru, rr⟩ : ∃ u us', us = u :: us' ∧ RelV (V.ref a) u ∧ Vals [V.ref b] us' := by cases r1 with | cons r t => exact ⟨_, _, rfl, r, t⟩
  obtain ⟨u2, rfl, ru2⟩ : ∃ u2, us = [u2] ∧ RelV (V.ref b) u2 := by cases rr with | cons r t => cases t; exact ⟨_, rfl, r⟩
  obtain rfl : u = Value.ref a := ru
  obtain rfl : u2 = Value.ref b := ru2
  obtain ⟨ka, ia, va, sa⟩ := sq_of I1 qa
  obtain ⟨kb, ib, vb, sb⟩ := sq_of I1 qb
  have la := va.length
  have lb := vb.length
  have mn : min ia.toArray.size ib.toArray.size = min xs.length ys.length := by rw [List.size_toArray, List.size_toArray, la, lb]
  refine call_zg sa sb fun g Z zo sz kp => Calls.spliced_nil ?_
  have hal := Kd.sq_lt sa
  have hbl := Kd.sq_lt sb
  refine zl_call (s := { s1 with heap := g }) (I1.ok.hd hc) (PySem.W.ktu_apart s1.heap.objs.size a b hal hbl) Z (Heap.lt_size Z.ti) (Nat.lt_of_lt_of_le hal (by show s1.heap.objs.size ≤ g.objs.size; rw [sz]; exact Nat.le_add_right _ _)) (Nat.lt_of_lt_of_le hbl (by show s1.heap.objs.size ≤ g.objs.size; rw [sz]; exact Nat.le_add_right _ _)) (by rw [mn]; exact hmin) fun h' acc c as k1 k2 k3 k4 k5 => ?_
  dsimp only at k1 k2 k3 k4 k5 ⊢
  have hS : s1.heap.objs.size ≤ g.objs.size := by rw [sz]; exact Nat.le_add_right _ _
  have hk : ∀ b o, s1.heap.get? b = some o → h'.get? b = some o := fun b o e => by
    have lt := Heap.lt_size e
    exact k1 b o (Nat.ne_of_lt (Nat.lt_of_lt_of_le lt (Nat.le_add_right _ _))) (Nat.ne_of_lt (Nat.lt_of_lt_of_le lt (Nat.le_add_right _ _))) (Nat.ne_of_lt lt) (Nat.ne_of_lt (Nat.lt_of_lt_of_le lt (Nat.le_add_right _ _))) (kp _ _ e)
  have nS : H1 g.objs.size = none := I1.hok.fresh hS
  have nas : ∀ t ∈ as, H1 t = none := fun t ht => I1.hok.fresh (Nat.le_trans hS (Nat.le_of_lt (k4.above t ht)))
  have nd : as.Nodup := List.Pairwise.imp (fun {x y} (h : x < y) => Nat.ne_of_lt h) k4.rise
  have Sn : g.objs.size ∉ as := fun z => Nat.lt_irrefl _ (k4.above _ z)
  have lx : as.length ≤ xs.length := by rw [k3, mn]; exact Nat.min_le_left _ _
  have ly : as.length ≤ ys.length := by rw [k3, mn]; exact Nat.min_le_right _ _
  have at_ := putP_at as xs ys (upd H1 g.objs.size (.lst (as.map V.ref))) lx ly nd
  have off : ∀ b, b ∉ as → b ≠ g.objs.size → putP (upd H1 g.objs.size (.lst (as.map V.ref))) as xs ys b = H1 b := fun b h1 h2 => by rw [putP_off as xs ys _ h1, upd_ne h2]
  have eS : putP (upd H1 g.objs.size (.lst (as.map V.ref))) as xs ys g.objs.size = some (.lst (as.map V.ref)) := by rw [putP_off as xs ys _ Sn, upd_same]
  have kp2 : ∀ b u, H1 b = some u → putP (upd H1 g.objs.size (.lst (as.map V.ref))) as xs ys b = some u := fun b u e => by
    rw [off b (fun z => by rw [nas b z] at e; cases e) (fun z => by rw [z, nS] at e; cases e)]
    exact e
  refine ⟨.ref g.objs.size, _, inv_grow (tk := s1.toks) I1 hk kp2 (fun b o e n => ?_) (fun b u e => ?_), rfl, q _ _ as kp2 nS nas (by rw [k3, mn]) eS at_⟩
  · have lt := Heap.lt_size e
    rw [off b (fun z => absurd (Nat.lt_of_lt_of_le lt (Nat.le_trans hS (Nat.le_of_lt (k4.above b z)))) (Nat.lt_irrefl _)) (Nat.ne_of_lt (Nat.lt_of_lt_of_le lt hS))]
    exact n
  · by_cases hb : b ∈ as
    · right
      obtain ⟨j, hj, rfl⟩ := List.getElem_of_mem hb
      obtain ⟨x, y, e1, e2, e3⟩ := at_ j _ (List.getElem?_eq_getElem hj)
      rw [e3] at e
      cases e
      obtain ⟨vx, vy, f1, f2, f3⟩ := k4.at_ j _ (List.getElem?_eq_getElem hj)
      obtain ⟨wx, g1, r1⟩ := va.get e1
      obtain ⟨wy, g2, r2⟩ := vb.get e2
      have h1 : vx = wx := Option.some.inj (f1.symm.trans (by simpa using g1))
      have h2 : vy = wy := Option.some.inj (f2.symm.trans (by simpa using g2))
      subst h1 h2
      exact ⟨by show 2 ≤ sizeLine; decide, [vx, vy], .cons r1 (.cons r2 .nil), ⟨_, f3, rfl, _, rfl⟩⟩
    · by_cases hb2 : b = g.objs.size
      · right
        rw [hb2] at e ⊢
        rw [eS] at e
        cases e
        refine ⟨by rw [List.length_map, k3, mn]; exact hmin, acc.toList, c, by rw [k5]; exact refs_vals as, ?_⟩
        rw [Array.toArray_toList]
        exact k2
      · left
        rw [off b hb hb2] at e
        exact e
end PKZ
namespace PKZ
open PySem PySem.Spec PyProof.Rows L2
def SqV (kd : Kd) (K : PySem.W.Frag) (H : Hp) (a : Addr) (xs : List V) : Prop := match kd with
  | .l => SqL K H a xs
  | .t => SqT K H a xs
theorem sq_kd {X : Cx} {pins : List (Addr × Obj)} {σ : L2.St} {H : Hp} {s : Shared} {kd : Kd} {a : Addr} {xs : List V} (I : Inv X pins σ H s) (q : SqV kd X.K H a xs) : ∃ its : List Value, Vals xs its ∧ kd.Sq s.heap a its.toArray := by
  cases kd with
  | l => obtain ⟨its, rv, p, _⟩ := I.list q; exact ⟨its, rv, p.isList⟩
  | t => obtain ⟨its, rv, p, _⟩ := I.tuple q; exact ⟨its, rv, p⟩
/-- pairs of the items of two sequences -/
def ItP (K : PySem.W.Frag) (ka kb : Kd) (a b : Addr) (xs ys : List V) : It :=
  ⟨fun i H => SqV ka K H a xs ∧ SqV kb K H b ys ∧ i < xs.length ∧ i < ys.length,
    fun i H v H' => ∃ T x y, v = .ref T ∧ H T = none ∧ H' = upd H T (.tup [x, y]) ∧ xs[i]? = some x ∧ ys[i]? = some y,
    fun i H => SqV ka K H a xs ∧ SqV kb K H b ys ∧ (xs.length ≤ i ∨ ys.length ≤ i)⟩
theorem turn_zip {P : Program} {w : World} {K : PySem.W.Frag} {elts : List Expr} {kk : Nat} {tpos : Pos} {ka kb : Kd} {a b z TI TO i1 i2 : Addr} {xs ys : List V} (D : ZipApart z TI TO i1 i2 a b) :
    Turn P w K (.Tuple elts kk tpos) (ItP K ka kb a b xs ys) [z, TI, TO, i1, i2] z (fun i h => Zo h z TI TO .none false ∧ IsPair h TI (.ref i1) (.ref i2) ∧ (∃ x y, IsPair h TO x y) ∧ ka.It h i1 a i ∧ kb.It h i2 b i) where
  mem := List.mem_cons_self
  obj := fun i h st c hc => by
    obtain ⟨q1, q2, ⟨x, y, q3⟩, q4, q5⟩ := st
    simp only [List.mem_cons, List.not_mem_nil, or_false] at hc
    rcases hc with e | e | e | e | e
    · rw [e]; exact ⟨_, q1, fun v q => nomatch q⟩
    · rw [e]; exact ⟨_, q2, fun v q => nomatch q⟩
    · rw [e]; exact ⟨_, q3, fun v q => nomatch q⟩
    · rw [e]; exact Kd.it_get q4
    · rw [e]; exact Kd.it_get q5
  keep := fun i h h' st k => by
    obtain ⟨q1, q2, ⟨x, y, q3⟩, q4, q5⟩ := st
    exact ⟨k z (by simp) _ q1, k TI (by simp) _ q2, ⟨x, y, k TO (by simp) _ q3⟩, Kd.it_at q4 fun o q => k i1 (by simp) o q, Kd.it_at q5 fun o q => k i2 (by simp) o q⟩
  item := by
    intro X hP hw hK hc i pins s σ H E I hf st hg
    subst hP hw hK
    obtain ⟨q1, q2, ⟨x0, y0, q3⟩, q4, q5⟩ := st
    obtain ⟨sx, sy, lx, ly⟩ := hg
    obtain ⟨ia, va, sa⟩ := sq_kd I sx
    obtain ⟨ib, vb, sb⟩ := sq_kd I sy
    obtain ⟨u, hu, ru⟩ := va.get (List.getElem?_eq_getElem lx)
    obtain ⟨u2, hu2, ru2⟩ := vb.get (List.getElem?_eq_getElem ly)
    have zl : z < s.heap.objs.size := Heap.lt_size q1
    have hT : s.TypeIs (.ref z) "zip" := ⟨_, q1, rfl⟩
    unfold pyNext
    refine wpAny_bind (wpAny_attempt (wpAny_callSpecial?_slot (name := Str.ofString "__next__") hT F.slot_zip_next (wpAny_call_entry F.slot_zip_next hT F.entry_zip_next ?_ (F.args_zip_next_1 _))))
    refine free_item D q1 q2 q3 q4 q5 sa sb (x := u) (y := u2) (by simpa using hu) (by simpa using hu2) fun h' c1 c2 c3 c4 c5 c6 c7 => wpAny_pure ?_
    refine ⟨_, rfl, wpAny_letOwnedTupleGo_zip (s := { s with heap := h' }) c1 fun g d1 d2 => ?_⟩
    have t2 : g.get? s.heap.objs.size = some { cls := .type "tuple", data := .seq #[u, u2] } := (d2.2 _ (Nat.ne_of_gt zl)).trans c5
    have new : ObjOk X.prog X.w (upd H s.heap.objs.size (.tup [xs[i], ys[i]])) g s.heap.objs.size (.tup [xs[i], ys[i]]) := ⟨by show 2 ≤ sizeLine; decide, [u, u2], .cons ru (.cons ru2 .nil), ⟨_, t2, rfl, _, rfl⟩⟩
    have away : ∀ c o, c ∉ [z, TI, TO, i1, i2] → s.heap.get? c = some o → g.get? c = some o := fun c o hb q => by
      simp only [List.mem_cons, List.not_mem_nil, or_false, not_or] at hb
      exact (d2.2 c hb.1).trans (c7 c o hb.1 hb.2.2.1 hb.2.2.2.1 hb.2.2.2.2 q)
    have I1 : Inv X pins σ (upd H s.heap.objs.size (.tup [xs[i], ys[i]])) { s with heap := g } := I.turnedNew (t' := s.toks) (ch := [z, TI, TO, i1, i2]) away hf (Nat.le_refl _) new
    refine ⟨.ref s.heap.objs.size, _, I1, rfl, ⟨_, xs[i], ys[i], rfl, I.hok.fresh (Nat.le_refl _), rfl, List.getElem?_eq_getElem lx, List.getElem?_eq_getElem ly⟩, ⟨d1, (d2.2 _ D.TIz).trans (c7 _ _ D.TIz D.TITO D.TIi1 D.TIi2 q2), ⟨_, _, (d2.2 _ D.TOz).trans c2⟩, Kd.it_at c3 fun o q => (d2.2 _ D.i1z).trans q, Kd.it_at c4 fun o q => (d2.2 _ D.i2z).trans q⟩, fun c hc => ?_⟩
    have lt : c < s.heap.objs.size := by
      simp only [List.mem_cons, List.not_mem_nil, or_false] at hc
      rcases hc with e | e | e | e | e
      · rw [e]; exact zl
      · rw [e]; exact Heap.lt_size q2
      · rw [e]; exact Heap.lt_size q3
      · rw [e]; obtain ⟨o, p, _⟩ := Kd.it_get q4; exact Heap.lt_size p
      · rw [e]; obtain ⟨o, p, _⟩ := Kd.it_get q5; exact Heap.lt_size p
    rw [upd_ne (Nat.ne_of_lt lt)]
    exact (hf c hc).1
  done := by
    intro X hP hw hK hc i pins s σ H E I hf st hg
    subst hP hw hK
    obtain ⟨q1, q2, ⟨x0, y0, q3⟩, q4, q5⟩ := st
    obtain ⟨sx, sy, hend⟩ := hg
    obtain ⟨ia, va, sa⟩ := sq_kd I sx
    obtain ⟨ib, vb, sb⟩ := sq_kd I sy
    have la := va.length
    have lb := vb.length
    have he : ia.toArray[i]? = none ∨ ib.toArray[i]? = none := by
      rcases hend with q | q
      · exact .inl (by simp; omega)
      · exact .inr (by simp; omega)
    have hT : s.TypeIs (.ref z) "zip" := ⟨_, q1, rfl⟩
    unfold pyNext
    refine wpAny_bind (wpAny_attempt (wpAny_callSpecial?_slot (name := Str.ofString "__next__") hT F.slot_zip_next (wpAny_call_entry F.slot_zip_next hT F.entry_zip_next ?_ (F.args_zip_next_1 _))))
    refine free_end (I.ok.hd hc) D q1 q2 q3 q4 q5 sa sb he fun h' e k ⟨o, ho, hc2⟩ => ?_
    refine wpAny_bind (wpAny_isInstance (T := "StopIteration") (b := true) ⟨o, ho, hc2⟩ isSubtype_stop (wpAny_pure ⟨rfl, I.turnedL (t' := s.toks) (ch := [z, TI, TO, i1, i2]) (fun c o hb q => ?_) hf⟩))
    simp only [List.mem_cons, List.not_mem_nil, or_false, not_or] at hb
    exact k c o hb.1 hb.2.2.1 hb.2.2.2.1 hb.2.2.2.2 q
  self := fun A i s Q E st h => wpAny_pyIter_zip st.1 h
def iZipP (K : PySem.W.Frag) (ta : TA) : TI := fun σ H R => ta σ H fun vs H1 => ∃ (ka kb : Kd) (a b : Addr) (xs ys : List V), vs = [.ref a, .ref b] ∧ SqV ka K H1 a xs ∧ SqV kb K H1 b ys ∧ R (ItP K ka kb a b xs ys) H1
/-- for x, y in zip(e, e2), lists and tuples -/
theorem pi_zipP {X : Cx} {e e2 : Expr} {ta : TA} {p pos tpos : Pos} {elts : List Expr} {kk : Nat} (hg : Gl X "zip") (hm : X.mg "zip" = none) (ha : PA X [e, e2] ta)
    (hs : starEach [e, e2] X.env = (false, eval e X.env) :: starEach [e2] X.env := by rfl) (hpl : (backTo pos (starEach [e2] X.env)).any (·.1) = false := by rfl) :
    PI X (.Tuple elts kk tpos) (.Call (.Name "zip" p) [e, e2] [] pos) (iZipP X.K ta) := by
  refine ⟨fun pins s σ H R I h => ?_⟩
  refine Call_ (ld_blt I hg hm PyProof.Rows.boot_zip (PyProof.Rows.callWith_type1 (thn (ha.run pos pins s σ H _ I h) fun us s1 ⟨vs, H1, I1, r1, q1⟩ => ?_) hs hpl))
  obtain ⟨ka, kb, a, b, xs, ys, rfl, sx, sy, q⟩ := q1
  obtain ⟨u, u2, rfl, ru, ru2⟩ : ∃ u u2, us = [u, u2] ∧ RelV (V.ref a) u ∧ RelV (V.ref b) u2 := by
    cases r1 with
    | cons r t => cases t with
      | cons r2 t => cases t; exact ⟨_, _, rfl, r, r2⟩
  obtain rfl : u = Value.ref a := ru
  obtain rfl : u2 = Value.ref b := ru2
  obtain ⟨ia, va, sa⟩ := sq_kd I1 sx
  obtain ⟨ib, vb, sb⟩ := sq_kd I1 sy
  refine call_zg sa sb fun g Z zo sz kp => wpAny_pyIter_zip (s := { s1 with heap := g }) zo ?_
  have I2 : Inv X pins σ H1 { s1 with heap := g } := I1.kept (t' := s1.toks) kp
  refine ⟨s1.heap.objs.size + 4, [s1.heap.objs.size + 4, s1.heap.objs.size + 2, s1.heap.objs.size + 3, s1.heap.objs.size, s1.heap.objs.size + 1], _, _, H1, rfl, I2, turn_zip (PySem.W.ktu_apart s1.heap.objs.size a b (Kd.sq_lt sa) (Kd.sq_lt sb)), ⟨zo, Z.ti, Z.to, Z.it1, Z.it2⟩, fun c hc => ?_, q⟩
  have le : s1.heap.objs.size ≤ c := by
    simp only [List.mem_cons, List.not_mem_nil, or_false] at hc
    rcases hc with e | e | e | e | e
    · rw [e]; exact Nat.le_add_right _ _
    · rw [e]; exact Nat.le_add_right _ _
    · rw [e]; exact Nat.le_add_right _ _
    · rw [e]; exact Nat.le_refl _
    · rw [e]; exact Nat.le_add_right _ _
  exact I1.fpOk le (I1.hok.fresh le)
theorem walk_zipP {K : PySem.W.Frag} {ka kb : Kd} {a b : Addr} {xs ys : List V} {n : Nat} (hn : n = min xs.length ys.length) : Walk (ItP K ka kb a b xs ys) n (fun H => SqV ka K H a xs ∧ SqV kb K H b ys) (YPair (fun i => xs[i]?) (fun i => ys[i]?)) := by
  subst hn
  refine ⟨fun i _ hi q => ⟨q.1, q.2, by omega, by omega⟩, fun _ q => ⟨q.1, q.2, by omega⟩, fun i H v H' _ q y => ?_⟩
  obtain ⟨T, x, y, h1, h2, h3, h4, h5⟩ := y
  exact ⟨T, x, y, h1, h2, h3, h4, h5⟩
end PKZ
namespace PKZ
open PySem PySem.Spec PyProof.Rows L2
/-! t[::-1] of a tuple; xs.extend(t) -/
theorem adjust_back (n : Nat) : Builtin.Slice.sliceAdjust none none (-1) (n : Int) = ((n : Int) - 1, -1) := by
  unfold Builtin.Slice.sliceAdjust
  simp
theorem places_back (n : Nat) : Builtin.Slice.slicePlaces ((n : Int) - 1) (-1) (-1) = n := by
  unfold Builtin.Slice.slicePlaces
  rw [if_neg (by decide), show (- -1 : Int) = 1 by decide, Int.ediv_one]
  split <;> omega
theorem fm_congr {α β : Type} {f g : α → Option β} : ∀ {l : List α}, (∀ x ∈ l, f x = g x) → l.filterMap f = l.filterMap g
  | [], _ => rfl
  | x :: r, h => by
    have e := h x List.mem_cons_self
    have ih := fm_congr (l := r) fun y hy => h y (List.mem_cons_of_mem _ hy)
    cases q : f x with
    | none => rw [List.filterMap_cons_none q, List.filterMap_cons_none (e ▸ q), ih]
    | some y => rw [List.filterMap_cons_some q, List.filterMap_cons_some (e ▸ q), ih]
theorem pick_back (xs : List Value) : (((List.range xs.length).filterMap fun (k : Nat) => xs.toArray[((xs.length : Int) - 1 + (k : Int) * (-1)).toNat]?)) = xs.reverse := by
  have e : (List.range xs.length).filterMap (fun (k : Nat) => xs.toArray[((xs.length : Int) - 1 + (k : Int) * (-1)).toNat]?) = (List.range xs.length).filterMap fun k => xs.reverse.toArray[0 + k]? := by
    refine fm_congr fun k hk => ?_
    have hk := List.mem_range.mp hk
    have : ((xs.length : Int) - 1 + (k : Int) * (-1)).toNat = xs.length - 1 - k := by omega
    rw [this]
    simp [List.getElem?_reverse hk]
  have p := pick_run xs.reverse.toArray 0 xs.length
  rw [List.filterMap_map] at p
  rw [e]
  refine p.trans ?_
  rw [List.drop_zero]
  exact List.take_of_length_le (by rw [List.length_reverse]; exact Nat.le_refl _)
section
variable {prog : Program} {w : World} {A : Around} {E : Value → Shared → Prop} {s : Shared}
theorem applied_back {sl : Addr} {t : Tok} {n : Nat} {Q : Int × Int × Nat → Shared → Prop} (hs : s.heap.IsSliceOf sl .none .none (.int (-1) t)) (h : Q ((n : Int) - 1, -1, n) s) : wpAny (model prog w) A (Builtin.Slice.sliceApplied (.ref sl) (pure (n : Int))) Q E s := by
  obtain ⟨os, hos, hcs, hds⟩ := id hs
  unfold Builtin.Slice.sliceApplied Builtin.Slice.sliceFields
  refine wpAny_bind (wpAny_bind (wpAny_field hos hds (x := .none) rfl (wpAny_bind (wpAny_field hos hds (x := .none) rfl (wpAny_bind (wpAny_field hos hds (x := .int (-1) t) rfl (wpAny_pure ?_)))))))
  refine wpAny_bind (HT.slicePart_ (o := some (-1)) (.int _ _) ?_)
  show wpAny _ _ (if ((-1 : Int) == 0) = true then _ else _) _ _ s
  rw [if_neg (by decide)]
  refine wpAny_bind (HT.slicePart_ .none (wpAny_bind (HT.slicePart_ .none (wpAny_bind (wpAny_pure ?_)))))
  show wpAny _ _ (match Builtin.Slice.sliceAdjust none none (-1) (n : Int) with | (lo, hi) => pure (lo, (-1 : Int), Builtin.Slice.slicePlaces lo hi (-1))) _ _ s
  rw [adjust_back]
  show wpAny _ _ (pure ((n : Int) - 1, (-1 : Int), Builtin.Slice.slicePlaces ((n : Int) - 1) (-1) (-1))) _ _ s
  rw [places_back]
  exact wpAny_pure h
theorem tuple_back {t sl : Addr} {its : List Value} {tk : Tok} {Q : Value → Shared → Prop} (ht : PyProof.Rows.IsTup s.heap t its.toArray) (hs : s.heap.IsSliceOf sl .none .none (.int (-1) tk)) (hz : its.length ≤ sizeLine)
    (h : Q (.ref s.heap.objs.size) { s with heap := s.heap.push { cls := .type "tuple", data := .seq its.reverse.toArray } }) : wpAny (model prog w) A (getItem (.ref t) (.ref sl)) Q E s := by
  have fit : sizeOk (.seq its.reverse.toArray) := by
    show its.reverse.toArray.size ≤ sizeLine
    rw [List.size_toArray, List.length_reverse]; exact hz
  obtain ⟨os, hos, hcs, hds⟩ := id hs
  unfold getItem
  try with_reducible refine wpAny_holding ?_
  first | refine wpAny_bind (wpAny_pure ?_) | skip
  refine wpAny_bind (wpAny_sequenceKey ht.typeIs (by decide) (wpAny_bind (wpAny_callSpecial?_slot (name := Str.ofString "__getitem__") ht.typeIs PyProof.Rows.slot_tuple_getitem (wpAny_call_entry PyProof.Rows.slot_tuple_getitem ht.typeIs entry_tuple_getitem ?_ (args_tuple_getitem _ _)))))
  show wpAny _ _ (Builtin.Tuple.tupleItemsOf (.ref t) >>= _) _ _ s
  refine wpAny_bind (tupleItemsOf_ ht (wpAny_bind (wpAny_typeOf (T := "slice") ⟨os, hos, hcs⟩ ?_)))
  rw [if_pos (by decide)]
  refine wpAny_bind (applied_back hs ?_)
  have no : ¬ ((((its.toArray.size : Int) - 1) == 0 && (-1 : Int) == 1 && its.toArray.size == its.toArray.size) = true) := by simp
  show wpAny _ _ (if ((((its.toArray.size : Int) - 1) == 0 && (-1 : Int) == 1 && its.toArray.size == its.toArray.size)) = true then _ else _) _ _ s
  rw [if_neg no]
  have pk : ((List.range its.toArray.size).filterMap fun (k : Nat) => its.toArray[((its.toArray.size : Int) - 1 + (k : Int) * (-1)).toNat]?).toArray = its.reverse.toArray := by
    rw [List.size_toArray, pick_back]
  rw [pk]
  first
    | exact wpAny_bind (m := Builtin.Tuple.tupleExact _) (wpAny_newObj_type (wpAny_pure ⟨_, rfl, wpAny_pure h⟩) fit)
    | exact wpAny_bind (m := Builtin.Tuple.tupleExact _) (wpAny_newObj_type (wpAny_bind (wpAny_pure (wpAny_pure ⟨_, rfl, wpAny_pure h⟩))) fit)
    | exact wpAny_bind (wpAny_bind (m := Builtin.Tuple.tupleExact _) (wpAny_newObj_type (wpAny_pure (wpAny_pure ⟨_, rfl, wpAny_pure h⟩)) fit))
    | exact wpAny_bind (wpAny_bind (m := Builtin.Tuple.tupleExact _) (wpAny_newObj_type (wpAny_pure ⟨_, rfl, wpAny_pure h⟩) fit))
end
def tRevT (K : PySem.W.Frag) (te : TE) : TE := fun σ H Q => te σ H fun x H1 => ∃ a xs, x = .ref a ∧ SqT K H1 a xs ∧ ∀ p, H1 p = none → Q (.ref p) (upd H1 p (.tup xs.reverse))
/-- t[::-1] of a tuple -/
theorem pe_revT {X : Cx} {e : Expr} {te : TE} {k : Nat} {p1 p2 p3 pos : Pos} (he : PE X e te) : PE X (.Subscript e (.Slice none none (some (.UnaryOp .USub (.Constant (.int 1) k p1) p2)) p3) pos) (tRevT X.K te) := by
  refine ⟨fun pins s σ H Q I h => Subscript_ (thn (he.run pins s σ H _ I h) fun v s1 ⟨x, H1, I1, r1, q1⟩ => ?_)⟩
  obtain ⟨a, xs, ex, hx, q⟩ := q1
  subst ex
  cases r1
  have hst : PO X (some (.UnaryOp .USub (.Constant (.int 1) k p1) p2)) (tPart (tUn (rU fun i => .int (-i)) (tC (.int 1)))) := po_some (pe_un un_neg pe_int)
  refine wpAny_Slice (thn (po_none.run pins s1 σ H1 (fun o H2 => o = none ∧ H2 = H1) I1 ⟨rfl, rfl⟩) fun vl s2 ⟨l, H2, I2, pl, el, e2⟩ => ?_)
  subst el e2
  refine thn (po_none.run pins s2 σ H2 (fun o H3 => o = none ∧ H3 = H2) I2 ⟨rfl, rfl⟩) fun vu s3 ⟨u, H3, I3, pu, eu, e3⟩ => ?_
  subst eu e3
  refine thn (hst.run pins s3 σ H3 (fun o H4 => o = some (-1) ∧ H4 = H3) I3 ⟨1, rfl, -1, rfl, rfl, rfl⟩) fun vs s4 ⟨o, H4, I4, ps, eo, e4⟩ => ?_
  subst eo e4
  have I5 : Inv X pins σ H4 { s4 with heap := s4.heap.push { cls := .type "slice", data := .fields #[vl, vu, vs] } } := I4.kept (t' := s4.toks) fun b ob q => Heap.get?_push_of_some _ q
  cases pl
  cases pu
  cases ps
  obtain ⟨its, r, ht, hz⟩ := I5.tuple hx
  have hlen := r.length
  refine tail_any (ops := [.ref a, .ref s4.heap.objs.size]) ht.typeIs (PyProof.Rows.slot_tuple_getitem.lookup) (tuple_back ht (Heap.IsSliceOf.new ..) (by omega) ?_) (by with_unfolding_all rfl)
  refine ⟨.ref _, _, I5.laid (t' := s4.toks) (o := .tup xs.reverse) (fun b ob q => Heap.get?_push_of_some _ q) (Nat.le_refl _) ?_, rfl, q _ (I5.hok.fresh (Nat.le_refl _))⟩
  exact ⟨by rw [List.length_reverse]; exact hz, _, r.reverse, IsTup.new _ _⟩
/-- a list is extended by a tuple -/
theorem extend_meets (l b : Addr) (xs ys : Array Value) (n m : Nat) (od : Option Addr) (os : Array (Option Value)) (long : ¬ (!xs.isEmpty && Builtin.List.listTooLong (xs.size + ys.size)) = true) (hx : xs.size ≤ sizeLine) (hxy : (xs ++ ys).size ≤ sizeLine + 1) :
    Meets (Builtin.«list.extend» ⟨[.ref l, .ref b], []⟩) (fun _ R s => s.heap.get? l = some { cls := .type "list", dict := none, data := .seq xs n, slots := #[] } ∧ s.heap.get? b = some { cls := .type "tuple", dict := od, data := .seq ys m, slots := os } ∧
      R (.ok (.ret Value.none)) { s with heap := s.heap.update l (Obj.mapSeq (· ++ ys)) }) :=
  .of_wp fun prog w A R s h => by
    obtain ⟨hp, g, d, tk, o⟩ := s
    obtain ⟨hl, hb, h⟩ := h
    have f1 := AutoSeq1.idx_int
    have f2 := AutoSeq1.sub_tuple_tuple
    have f3 := AutoSeq1.sub_list_list
    have f4 := AutoSeq1.sub_tuple_list
    wp_walk using (wpAny_updateSeq hl rfl (hz := hx) (_hz' := hxy)), wpAny_loadPart' hl, wpAny_loadPart' hb
    exact ⟨_, rfl, h⟩
def rExtT (K : PySem.W.Frag) : V → List V → Hp → VK → Prop := fun x vs H Q => ∃ l b xs zs, x = .ref l ∧ vs = [.ref b] ∧ H l = some (.lst xs) ∧ SqT K H b zs ∧ xs.length + zs.length ≤ sizeLine ∧ Q .non (upd H l (.lst (xs ++ zs)))
theorem mt_extendT {X : Cx} : MtM X "list.extend" (rExtT X.K) := by
  intro pins s σ H x vs v us Q I rx rv h
  obtain ⟨l, b, xs, zs, rfl, rfl, hH, hB, hz, q⟩ := h
  cases rx
  obtain ⟨u, rfl, ru⟩ := rv.one
  cases ru
  obtain ⟨z, its, n, r, hl, e⟩ := I.lstM hH
  obtain ⟨its2, r2, ⟨o, ho, hc, n2, hd⟩, _⟩ := I.tuple hB
  obtain ⟨oc, od, odt, osl⟩ := o
  cases hc
  cases hd
  have l2 := r2.length
  have hsz : its.toArray.size + its2.toArray.size ≤ sizeLine := by rw [List.size_toArray, List.size_toArray]; omega
  have long : ¬ (!its.toArray.isEmpty && Builtin.List.listTooLong (its.toArray.size + its2.toArray.size)) = true := by
    rw [notLongL hsz, Bool.and_false]
    exact Bool.false_ne_true
  refine call_meets F.slot_list_extend ⟨_, e, rfl⟩ F.entry_list_extend (F.args_list_extend_2 _ _) (extend_meets l b its.toArray its2.toArray n n2 od osl long (by rw [List.size_toArray]; omega) (by rw [Array.size_append]; omega)) ⟨e, ho, ?_⟩
  refine ⟨.non, _, I.lset (its' := its ++ its2) hH e (by simp) (r.append r2) ?_, rfl, q⟩
  rw [List.length_append]
  omega
end PKZ
namespace PKZ
open PySem PySem.Spec PyProof.Rows L2
/-! dict(zip(e, e2)) -/
theorem zip_nokeys : typeLookup (.type "zip") "keys" = pure none := by
  rw [typeLookup_type, builtinLookup_eq_fast]; kernel_rfl
theorem zip_nogetattr : typeLookup (.type "zip") "__getattr__" = pure none := by
  rw [typeLookup_type, builtinLookup_eq_fast]; kernel_rfl
theorem zip_getattribute : entryFor table "zip.__getattribute__" = some Builtin.«object.__getattribute__» :=
  entryFor_alias (id' := "object.__getattribute__") (by kernel_rfl) (by decide +kernel) (by decide +kernel) (by kernel_rfl)
set_option maxRecDepth 8000 in
theorem zip_miss (a : Addr) (vs : Array Value) (u : Tok) :
    Meets (Builtin.«object.__getattribute__» ⟨[.ref a, .str "keys" u], []⟩) (fun A R s => s.heap.get? a = some { cls := .type "zip", dict := none, data := .fields vs, slots := #[] } ∧ raisesAttr (.ref a) "keys" A R s) :=
  Meets.of_wp fun prog w A R s hs => by
    obtain ⟨hp, g, d, tk, os⟩ := s
    obtain ⟨hx, hs⟩ := hs
    have hT : (⟨hp, g, d, tk, os⟩ : Shared).TypeIs (.ref a) "zip" := ⟨_, hx, rfl⟩
    have hmiss := zip_nokeys
    have hname : (["__module__", "__name__", "__qualname__", "__doc__", "__annotations__"] : List Str).contains "keys" = false := by decide +kernel
    have hsz : ("keys" : Str).length + 100 ≤ sizeLine := by first | size_fits | decide +kernel
    unfold Builtin.«object.__getattribute__»
    repeat (any_goals (first | assumption | wp_step))
    try simp only [hname, Bool.false_eq_true, if_false]
    repeat (any_goals (first | assumption | wp_step))
    exact wpAny_raiseAttrError hs.1 hs.2 (attrMsg_fits (by decide +kernel) hsz)
section
variable {prog : Program} {w : World} {A : Around} {E : Value → Shared → Prop}
set_option maxRecDepth 8000 in
theorem zip_has_no_keys {s : Shared} {a : Addr} {vs : Array Value} {Q : Option Value → Shared → Prop} (hx : s.heap.get? a = some { cls := .type "zip", dict := none, data := .fields vs, slots := #[] }) (hA : A.handled = none)
    (h : ∀ h' tk, (∀ b ob, s.heap.get? b = some ob → h'.get? b = some ob) → Q none { s with heap := h', toks := tk }) : wpAny (model prog w) A (getAttr? (.ref a) "keys") Q E s := by
  obtain ⟨hp, g, d, tk, os⟩ := s
  have hT : ∀ tk', (⟨hp, g, d, tk', os⟩ : Shared).TypeIs (.ref a) "zip" := fun _ => ⟨_, hx, rfl⟩
  have f1 := sub_AttributeError
  have f3 := PySem.F.slot_zip_getattribute.lookup
  have f4 := PySem.F.slot_zip_getattribute.bind (.ref a)
  have f5 := zip_nogetattr
  unfold getAttr? getAttrBy? getAttrBy
  repeat (any_goals (first | assumption | exact hT _ | ((with_reducible show wpAny _ _ (call (Value.builtin "zip.__getattribute__") _ _) _ _ _); refine call_meets PySem.F.slot_zip_getattribute (hT _) zip_getattribute (PySem.F.args_zip_getattribute_2 _ _) (zip_miss _ _ _) ⟨hx, hA, fun h' tk' e hx' => ?_⟩) | wp_step))
  obtain ⟨t', u', he⟩ := hx'.there
  show wpAny _ _ (getattributeRaised _ _ _ _ _ _ _) _ _ _
  unfold getattributeRaised
  repeat (any_goals (first | assumption | wp_step))
  all_goals first | exact h _ _ hx'.keeps | (dsimp only; repeat (any_goals (first | assumption | exact h _ _ hx'.keeps | wp_step)))
end
end PKZ
namespace PKZ
open PySem PySem.Spec PyProof.Rows L2
section
variable {prog : Program} {w : World} {A : Around} {E : Value → Shared → Prop} {ka kb : Kd} {z TI TO i1 i2 l1 l2 S : Addr} {xs ys : Array Value}
theorem dz_loop {R : Result → Shared → Prop} {res : Value} (hh : A.handled = none) (D : ZipApart z TI TO i1 i2 l1 l2) (hS : S ≠ z ∧ S ≠ TI ∧ S ≠ TO ∧ S ≠ i1 ∧ S ≠ i2 ∧ S ≠ l1 ∧ S ≠ l2) :
    ∀ (rest : List (Key × Value)) (i : Nat) (acc : List (Key × Value)) (ix : Int) (t : Tok) (s : Shared), (∀ (j : Nat) (q : Key × Value), rest[j]? = some q → ∃ u, xs[i + j]? = some u ∧ ys[i + j]? = some q.2 ∧ keyIs q.1 u = true) →
      min xs.size ys.size = i + rest.length → acc.length + rest.length ≤ sizeLine → ZSt ka kb z TI TO i1 i2 l1 l2 xs ys i s.heap → s.heap.DictOf (mixKind prog w) S acc →
      (∀ h' tk, h'.DictOf (mixKind prog w) S (merged acc rest) → (∀ b o, b ≠ S → b ≠ z → b ≠ TO → b ≠ i1 → b ≠ i2 → s.heap.get? b = some o → h'.get? b = some o) → R (.ok (.ret res)) { s with heap := h', toks := tk }) →
      codeAny (model prog w) A (.builtin "dict.update.loop" ⟨[.ref S, .ref z, .int ix t, res], []⟩) R s
  | [], i, acc, ix, t, s, hp, hn, hl, Z, hd, hR => by
    refine codeAny_builtin ud_entry ?_
    (rw [Around.under_plainId ud_plain])
    show wpAny _ A.in1 (pyNext (.ref z) >>= _) _ _ s
    have hend : xs[i]? = none ∨ ys[i]? = none := by
      have hn : min xs.size ys.size = i := hn
      rcases Nat.le_total xs.size ys.size with q | q
      · exact .inl (Array.getElem?_eq_none (by omega))
      · exact .inr (Array.getElem?_eq_none (by omega))
    refine wpAny_bind (zst_done (A := A.in1) hh D Z hend fun h' e => ?_)
    show wpAny _ A.in1 (Builtin.Dict.addKeywords S [] >>= _) _ _ _
    refine wpAny_bind (wpAny_pure (wpAny_pure (hR h' s.toks (hd.at fun o q => e _ o hS.1 hS.2.2.1 hS.2.2.2.1 hS.2.2.2.2.1 q) fun b o _ b2 b3 b4 b5 q => e b o b2 b3 b4 b5 q)))
  | p :: rest, i, acc, ix, t, s, hp, hn, hl, Z, hd, hR => by
    obtain ⟨u, hu, hv, hk⟩ := hp 0 p rfl
    rw [List.length_cons] at hn hl
    refine codeAny_builtin ud_entry ?_
    (rw [Around.under_plainId ud_plain])
    show wpAny _ A.in1 (pyNext (.ref z) >>= _) _ _ s
    refine wpAny_bind (zst_item (A := A.in1) D Z (by simpa using hu) (by simpa using hv) fun h1 Z1 pr sz e => ?_)
    have hd1 : h1.DictOf (mixKind prog w) S acc := hd.at fun o q => e _ o hS.1 hS.2.2.1 hS.2.2.2.1 hS.2.2.2.2.1 q
    show wpAny _ A.in1 (holding [Value.ref s.heap.objs.size] _ >>= _) _ _ _
    refine wpAny_bind (wpAny_holding (wpAny_bind (wpAny_tryCatch ?_)))
    unfold Builtin.Dict.pairItems
    refine wpAny_bind (wpAny_typeOf (T := "tuple") ⟨_, pr, rfl⟩ ?_)
    rw [if_pos (by first | decide | rfl | simp)]
    refine wpAny_bind (wpAny_seqItems pr rfl (wpAny_pure ?_))
    show wpAny _ A.in1 (holding [u, p.2] (dictSet S u p.2)) _ _ _
    refine wpAny_holding (wpAny_dictSet_pairs (knd := mixKind prog w) (k := p.1) hk hd1 (fun h2 hd2 e2 => ?_) (by omega))
    have kS : ∀ o, h1.get? S = some o → ∃ o', h2.get? S = some o' := fun o q => let ⟨q', _, _, hq, _⟩ := hd2; ⟨q', hq⟩
    refine wpAny_pure ⟨plainId_quiet ud_plain _, dz_loop hh D hS rest (i + 1) (stored acc p.1 p.2) (ix + 1) 0 _ (fun j q' h => ?_) (by omega) ?_ (Z1.keep hS (fun b o hb q => e2.extBut b o hb q) kS) hd2 fun h' tk hd' k => ?_⟩
    · obtain ⟨u', a1, a2, a3⟩ := hp (j + 1) q' (by simpa using h)
      exact ⟨u', by rw [show i + 1 + j = i + (j + 1) by omega]; exact a1, by rw [show i + 1 + j = i + (j + 1) by omega]; exact a2, a3⟩
    · have := stored_length_le acc p.1 p.2
      omega
    · exact hR h' tk hd' fun b o b1 b2 b3 b4 b5 q => k b o b1 b2 b3 b4 b5 (e2.extBut b o b1 (e b o b2 b3 b4 b5 q))
theorem dz_call {s : Shared} {prs : List (Key × Value)} {Q : Value → Shared → Prop} (hh : A.handled = none) (D : ZipApart z TI TO i1 i2 l1 l2) (Z : ZSt ka kb z TI TO i1 i2 l1 l2 xs ys 0 s.heap) (zo : Zo s.heap z TI TO .none false)
    (lTI : TI < s.heap.objs.size) (l1l : l1 < s.heap.objs.size) (l2l : l2 < s.heap.objs.size) (hp : ∀ (j : Nat) (q : Key × Value), prs[j]? = some q → ∃ u, xs[j]? = some u ∧ ys[j]? = some q.2 ∧ keyIs q.1 u = true) (hn : min xs.size ys.size = prs.length) (hl : prs.length ≤ sizeLine)
    (hQ : ∀ h' tk, h'.DictOf (mixKind prog w) s.heap.objs.size (merged [] prs) → (∀ b o, b ≠ z → b ≠ TO → b ≠ i1 → b ≠ i2 → s.heap.get? b = some o → h'.get? b = some o) → Q (.ref s.heap.objs.size) { s with heap := h', toks := tk }) :
    wpAny (model prog w) A (call (.type "dict") [.ref z]) Q E s := by
  have zl : z < s.heap.objs.size := Heap.lt_size zo
  have TOl : TO < s.heap.objs.size := by obtain ⟨_, _, q⟩ := Z.to; exact Heap.lt_size q
  have i1l : i1 < s.heap.objs.size := by obtain ⟨o, q, _⟩ := Kd.it_get Z.it1; exact Heap.lt_size q
  have i2l : i2 < s.heap.objs.size := by obtain ⟨o, q, _⟩ := Kd.it_get Z.it2; exact Heap.lt_size q
  refine callType_codes (Q₁ := fun obj s₁ => obj = .ref s.heap.objs.size ∧ s₁ = { s with heap := s.heap.push { cls := .type "dict", data := .dict #[] } }) PySem.F.kt_called_dict (PySem.F.kt_typeCall_dict_1 _) PySem.F.entry_dict_init (kt_code_dict_new _ ⟨rfl, rfl⟩) fun obj s₁ h₁ => ?_
  obtain ⟨rfl, rfl⟩ := h₁
  refine ⟨⟨_, Heap.get?_push_size _ rfl, rfl⟩, PySem.F.args_dict_init_2 _ _, ?_⟩
  have hnew : (s.heap.push { cls := .type "dict", data := .dict #[] }).DictOf (mixKind prog w) s.heap.objs.size [] := Heap.DictOf.new s.heap
  unfold Builtin.«dict.__init__»
  refine wpAny_bind ?_
  unfold Builtin.Dict.selfAndRest
  refine wpAny_bind (wpAny_notOrdered_dict hnew.typeIs ?_)
  show wpAny _ _ (pure (s.heap.objs.size, [Value.ref z])) _ _ _
  refine wpAny_pure ?_
  show wpAny _ _ (Builtin.Dict.updateFrom "dict.__init__" s.heap.objs.size (.ref z) [] .none) _ _ _
  unfold Builtin.Dict.updateFrom
  have kp : ∀ b o, s.heap.get? b = some o → (s.heap.push { cls := .type "dict", data := .dict #[] }).get? b = some o := fun b o e => Heap.get?_push_of_some _ e
  refine wpAny_bind (wpAny_typeOf (T := "zip") ⟨_, kp _ _ zo, rfl⟩ ?_)
  rw [if_pos (by first | decide | rfl | simp)]
  refine wpAny_bind (zip_has_no_keys (kp _ _ zo) hh fun h1 tk1 k1 => ?_)
  simp only [Option.isNone_none, if_true]
  refine wpAny_bind (wpAny_rule ?_)
  have k2 : ∀ b o, s.heap.get? b = some o → h1.get? b = some o := fun b o e => k1 b o (kp b o e)
  refine wpAny_bind (wpAny_pyIter_zip (k2 _ _ zo) ?_)
  refine wpAny_pure ⟨plainId_quiet ud_plain _, ?_⟩
  have ne : ∀ b, b < s.heap.objs.size → s.heap.objs.size ≠ b := fun b h => Ne.symm (Nat.ne_of_lt h)
  refine dz_loop (w := w) (prog := prog) (A := A.in1) (s := ⟨h1, _, _, _, _⟩) (ka := ka) (kb := kb) (xs := xs) (ys := ys) hh D ⟨ne _ zl, ne _ lTI, ne _ TOl, ne _ i1l, ne _ i2l, ne _ l1l, ne _ l2l⟩ prs 0 [] _ _ (fun j q e => ?_) ?_ ?_ ?_ ?_ fun h' tk hd' k => ?_
  · obtain ⟨u, a1, a2, a3⟩ := hp j q e
    exact ⟨u, by rw [Nat.zero_add]; exact a1, by rw [Nat.zero_add]; exact a2, a3⟩
  · rw [Nat.zero_add]; exact hn
  · show 0 + prs.length ≤ sizeLine
    rw [Nat.zero_add]; exact hl
  · exact Z.keep ⟨ne _ zl, ne _ lTI, ne _ TOl, ne _ i1l, ne _ i2l, ne _ l1l, ne _ l2l⟩ (fun b o _ q => k2 b o q) fun o q => absurd (Heap.lt_size q) (Nat.lt_irrefl _)
  · exact hnew.at fun o q => k1 _ o q
  · exact ⟨rfl, hQ h' tk hd' fun b o b1 b2 b3 b4 q => k b o (Nat.ne_of_lt (Heap.lt_size q)) b1 b2 b3 b4 (k2 b o q)⟩
end
end PKZ
namespace PKZ
open PySem PySem.Spec PyProof.Rows L2
def rDictZip (K : PySem.W.Frag) : List V → Hp → VK → Prop := fun vs H Q => ∃ (a b : Addr) (ks : List Key) (ys : List V), vs = [.ref a, .ref b] ∧ Sq2 K H a (ks.map kV) ∧ Sq2 K H b ys ∧ min ks.length ys.length ≤ sizeLine ∧
  ∀ p, H p = none → Q (.ref p) (upd H p (.dK (mergeK [] (ks.zip ys))))
def tDictZip (K : PySem.W.Frag) (ta : TA) : TE := fun σ H Q => ta σ H fun vs H1 => rDictZip K vs H1 Q
theorem kv_zip {X : Cx} : ∀ {ks : List Key} {ys : List V} {ia ib : List Value}, Vals (ks.map kV) ia → Vals ys ib →
    ∃ prs : List (Key × Value), KV (ks.zip ys) prs ∧ min ia.length ib.length = prs.length ∧ ∀ (j : Nat) (q : Key × Value), prs[j]? = some q → ∃ u, ia[j]? = some u ∧ ib[j]? = some q.2 ∧ keyIs q.1 u = true
  | [], ys, ia, ib, va, vb => by
    cases va
    exact ⟨[], by rw [List.zip_nil_left]; exact .nil, by simp, fun j q e => by simp at e⟩
  | k :: ks, [], ia, ib, va, vb => by
    cases vb
    exact ⟨[], by rw [List.zip_nil_right]; exact .nil, by simp, fun j q e => by simp at e⟩
  | k :: ks, y :: ys, ia, ib, va, vb => by
    rw [List.map_cons] at va
    cases va with
    | cons r t => cases vb with
      | cons r2 t2 =>
        rename_i u us u2 us2
        obtain ⟨prs, k1, k2, k3⟩ := kv_zip (X := X) t t2
        refine ⟨(k, u2) :: prs, ?_, ?_, fun j q e => ?_⟩
        · rw [List.zip_cons_cons]
          exact .cons ⟨rfl, r2⟩ k1
        · rw [List.length_cons, List.length_cons, List.length_cons, ← k2]
          omega
        · cases j with
          | zero =>
            have e' : (k, u2) = q := Option.some.inj e
            subst e'
            exact ⟨u, rfl, rfl, kV_is (P := X.prog) (w := X.w) r⟩
          | succ j =>
            obtain ⟨b, e1, e2, e3⟩ := k3 j q (by simpa using e)
            exact ⟨b, by simpa using e1, by simpa using e2, e3⟩
/-- dict(zip(e, e2)) -/
theorem pe_dictZip {X : Cx} {e e2 : Expr} {ta : TA} {p p2 pos pos2 : Pos} (hc : X.calm = true) (hg : Gl X "dict") (hm : X.mg "dict" = none) (hv : bootBuiltins "dict" = some (.type "dict")) (hg2 : Gl X "zip") (hm2 : X.mg "zip" = none) (ha : PA X [e, e2] ta)
    (hs : starEach [.Call (.Name "zip" p2) [e, e2] [] pos2] X.env = (false, eval (.Call (.Name "zip" p2) [e, e2] [] pos2) X.env) :: starEach [] X.env := by rfl)
    (hs2 : starEach [e, e2] X.env = (false, eval e X.env) :: starEach [e2] X.env := by rfl) (hpl : (backTo pos2 (starEach [e2] X.env)).any (·.1) = false := by rfl) :
    PE X (.Call (.Name "dict" p) [.Call (.Name "zip" p2) [e, e2] [] pos2] [] pos) (tDictZip X.K ta) := by
  refine ⟨fun pins s σ H Q I hq => ?_⟩
  refine wpAny_Call_Name_kw (ld_blt I hg hm hv (PyProof.Rows.callWith_type1 ?_ hs rfl))
  rw [hs]
  show wpAny _ _ (spliced ((false, eval (.Call (.Name "zip" p2) [e, e2] [] pos2) X.env) :: backTo pos (starEach [] X.env))) _ _ s
  refine Calls.spliced_cons (Call_ (ld_blt I hg2 hm2 PyProof.Rows.boot_zip (PyProof.Rows.callWith_type1 (thn (ha.run pos2 pins s σ H _ I hq) fun us s1 ⟨vs, H1, I1, r1, q1⟩ => ?_) hs2 hpl)))
  obtain ⟨a, b, ks, ys, rfl, qa, qb, hmin, q⟩ := q1
  obtain ⟨u, us, rfl, ru, rr⟩ : ∃ u us', us = u :: us' ∧ RelV (V.ref a) u ∧ Vals [V.ref b] us' := by cases r1 with | cons r t => exact ⟨_, _, rfl, r, t⟩
  obtain ⟨u2, rfl, ru2⟩ : ∃ u2, us = [u2] ∧ RelV (V.ref b) u2 := by cases rr with | cons r t => cases t; exact ⟨_, rfl, r⟩
  obtain rfl : u = Value.ref a := ru
  obtain rfl : u2 = Value.ref b := ru2
  obtain ⟨ka, ia, va, sa⟩ := sq_of I1 qa
  obtain ⟨kb, ib, vb, sb⟩ := sq_of I1 qb
  have la := va.length
  rw [List.length_map] at la
  have lb := vb.length
  obtain ⟨prs, rel, hl, hpr⟩ := kv_zip (X := X) va vb
  have hlen : prs.length ≤ sizeLine := by rw [← hl, ← la, ← lb]; exact hmin
  refine call_zg sa sb fun g Z zo sz kp => Calls.spliced_nil ?_
  have hal := Kd.sq_lt sa
  have hbl := Kd.sq_lt sb
  have hS : s1.heap.objs.size ≤ g.objs.size := by rw [sz]; exact Nat.le_add_right _ _
  refine dz_call (s := { s1 with heap := g }) (prs := prs) (I1.ok.hd hc) (PySem.W.ktu_apart s1.heap.objs.size a b hal hbl) Z zo (Heap.lt_size Z.ti) (Nat.lt_of_lt_of_le hal hS) (Nat.lt_of_lt_of_le hbl hS) (fun j q e => ?_) (by rw [List.size_toArray, List.size_toArray]; exact hl) hlen fun h' tk hd' k => ?_
  · obtain ⟨u, e1, e2, e3⟩ := hpr j q e
    exact ⟨u, by simpa using e1, by simpa using e2, e3⟩
  · dsimp only at hd' k ⊢
    have hk : ∀ b o, s1.heap.get? b = some o → h'.get? b = some o := fun b o e => by
      have lt := Heap.lt_size e
      exact k b o (Nat.ne_of_lt (Nat.lt_of_lt_of_le lt (Nat.le_add_right _ _))) (Nat.ne_of_lt (Nat.lt_of_lt_of_le lt (Nat.le_add_right _ _))) (Nat.ne_of_lt lt) (Nat.ne_of_lt (Nat.lt_of_lt_of_le lt (Nat.le_add_right _ _))) (kp _ _ e)
    have nS : H1 g.objs.size = none := I1.hok.fresh hS
    have hm : (g.objs.size == sysModules) = false := beq_eq_false_iff_ne.mpr (Nat.ne_of_gt (Nat.lt_of_lt_of_le I1.big hS))
    have hz : (mergeK [] (ks.zip ys)).length ≤ sizeLine := by
      refine Nat.le_trans (length_mergeK _ []) ?_
      rw [List.length_nil, Nat.zero_add, rel.length]
      exact hlen
    exact ⟨.ref g.objs.size, upd H1 g.objs.size (.dK (mergeK [] (ks.zip ys))), I1.laid (t' := tk) hk hS (show ObjOk X.prog X.w _ _ _ (.dK (mergeK [] (ks.zip ys))) from ⟨hz, hm, merged [] prs, KV.merge rel .nil, hd'⟩), rfl, q _ nS⟩
end PKZ
/-! del xs[-m:], m from 1 to the length: the list's last m items go -/
namespace L2.PKR
open PySem PySem.Spec PyProof.Rows
theorem keep_first {sel : Nat → Bool} {a : Nat} : ∀ (its : List Value) (j : Nat), (∀ k, k < j + its.length → sel k = decide (a ≤ k)) →
    (its.zipIdx j).filterMap (fun p => if sel p.2 = true then none else some p.1) = its.take (a - j)
  | [], _, _ => by simp
  | x :: r, j, h => by
    have ih := keep_first r (j + 1) (fun k hk => h k (by rw [List.length_cons]; omega))
    have e := h j (by rw [List.length_cons]; omega)
    rw [List.zipIdx_cons]
    by_cases q : a ≤ j
    · rw [decide_eq_true q] at e
      rw [List.filterMap_cons_none (by simp only [e, if_true]), ih, show a - (j + 1) = 0 by omega, show a - j = 0 by omega, List.take_zero, List.take_zero]
    · rw [decide_eq_false q] at e
      rw [List.filterMap_cons_some (b := x) (by simp only [e]; rfl), ih, show a - j = (a - (j + 1)) + 1 by omega, List.take_succ_cons]
theorem tail_bounds {m n : Nat} (h : m ≤ n) (h0 : 0 < m) : sliceBounds (some (-(m : Int))) none none n = (((n - m : Nat) : Int), (n : Int), 1) := by
  simp only [sliceBounds, Option.getD_none]
  have h1 : (-(m : Int)) < 0 := by omega
  simp only [h1, if_true, show (1 : Int) > 0 by decide]
  congr 1
  omega
section
variable {prog : Program} {w : World} {A : Around} {E : Value → Shared → Prop} {s : Shared}
theorem del_tail {l sl : Addr} {its : List Value} {n m : Nat} {vl : Value} {Q : Unit → Shared → Prop} (e : s.heap.get? l = some { cls := .type "list", data := .seq its.toArray n }) (hs : s.heap.IsSliceOf sl vl .none .none)
    (pl : IsPart vl (some (-(m : Int)))) (h0 : 0 < m) (hm : m ≤ its.length) (hz : its.length ≤ sizeLine)
    (h : ∀ f : Array Value → Array Value, f its.toArray = (its.take (its.length - m)).toArray → Q () { s with heap := s.heap.update l (Obj.mapSeq f) }) : wpAny (model prog w) A (delItem (.ref l) (.ref sl)) Q E s := by
  have hl : s.heap.IsList l its.toArray := PySem.IsL.isList e
  obtain ⟨os, hos, hcs, hds⟩ := id hs
  have ty : s.TypeIs (.ref sl) "slice" := ⟨os, hos, hcs⟩
  refine wpAny_delItem_slot hl.typeIs (by decide) F.slot_list_delitem (wpAny_call_entry F.slot_list_delitem hl.typeIs F.entry_list_delitem ?_ (F.args_list_delitem_2 _ _))
  show wpAny _ _ (Builtin.List.listSubscript? (.ref sl) >>= _) _ _ s
  unfold Builtin.List.listSubscript?
  refine wpAny_bind (wpAny_bind (wpAny_specialOf ty slice_no_index ?_))
  simp only [Option.isNone_none, if_true]
  refine wpAny_pure ?_
  show wpAny _ _ (typeOf (.ref sl) >>= _) _ _ s
  refine wpAny_bind (wpAny_typeOf ty ?_)
  first | (rw [if_neg (by decide)]) | (refine PySem.W.KFB.if_not (by decide) ?_)
  rw [listSliceParts_eq]
  refine wpAny_bind (wpAny_bind (wpAny_field hos hds (x := .none) rfl (wpAny_bind (wpAny_listPart .none ?_)))); rw [if_neg (show ¬ ((rawPart none == rawInt 0) = true) from Bool.false_ne_true)]
  refine wpAny_bind (wpAny_field hos hds (x := vl) rfl (wpAny_bind (wpAny_listPart pl (wpAny_bind (wpAny_field hos hds (x := .none) rfl (wpAny_bind (wpAny_listPart .none (wpAny_pure ?_))))))))
  unfold Builtin.List.listItems
  refine wpAny_bind (wpAny_bind (wpAny_seqItems e rfl (wpAny_pure ?_)))
  refine wpAny_bind (wpAny_of_eq ((sliceIndices_raw (some (-(m : Int))) none none its.toArray.size (by simp)).trans (congrArg (pure : Int × Int × Int → Sem (Int × Int × Int)) (tail_bounds (n := its.toArray.size) (by simpa using hm) h0))) ?_)
  refine wpAny_bind (wpAny_rule ?_)
  have lt : its.toArray.size = its.length := List.size_toArray
  show wpAny _ _ (updateSeq l _ >>= _) _ _ _
  refine wpAny_bind (wpAny_updateSeq (hz := by rw [lt]; exact hz) (_hz' := ?fit) e rfl (wpAny_bind (wpAny_letGo (wpAny_pure ⟨.none, rfl, h _ (congrArg List.toArray ?same)⟩))))
  case fit =>
    rw [List.size_toArray]
    exact Nat.le_succ_of_le (Nat.le_trans (List.length_filterMap_le _ _) (by rw [List.length_zipIdx]; exact hz))
  case same =>
    refine (keep_first (a := its.length - m) its 0 fun k hk => ?_)
    show (if (1 : Int) > 0 then (decide (((its.toArray.size - m : Nat) : Int) ≤ (k : Int)) && decide ((k : Int) < (its.toArray.size : Int)) && (((k : Int) - ((its.toArray.size - m : Nat) : Int)) % 1 == 0)) else _) = _
    rw [if_pos (by decide), lt, Int.emod_one]
    have k2 : (k : Int) < (its.length : Int) := by omega
    rw [decide_eq_true k2, Bool.and_true]
    by_cases q : its.length - m ≤ k
    · rw [decide_eq_true q, decide_eq_true (show ((its.length - m : Nat) : Int) ≤ (k : Int) by omega)]; rfl
    · rw [decide_eq_false q, decide_eq_false (show ¬ ((its.length - m : Nat) : Int) ≤ (k : Int) by omega)]; rfl
end
def tDelTail (to ti : TE) : TS := fun D σ H => to σ H fun x H1 => ti σ H1 fun y H2 => ∃ (l : Addr) (xs : List V) (m : Nat), x = .ref l ∧ y = .int (-(m : Int)) ∧ H2 l = some (.lst xs) ∧ 0 < m ∧ m ≤ xs.length ∧ D.nx σ (upd H2 l (.lst (xs.take (xs.length - m))))
theorem ps_delTail {X : Cx} {o i : Expr} {to ti : TE} {p2 tpos pos : Pos} (ho : PE X o to) (hi : PE X i ti) : PS X (.Delete [.Subscript o (.Slice (some i) none none p2) tpos] pos) (tDelTail to ti) := by
  refine ⟨fun pins s σ H D I h => wpAny_Delete (wpAny_deleteEach_cons (wpAny_delete_Subscript (thn (ho.run pins s σ H _ I h) fun u s1 ⟨x, H1, I1, rx, q1⟩ => wpAny_Slice ?_)))⟩
  rw [evalPart_some]
  refine thn (hi.run pins s1 σ H1 _ I1 q1) fun v s2 ⟨y, H2, I2, ry, l, xs, m, ex, ey, hH, h0, hm, q2⟩ => ?_
  subst ex ey
  cases (show u = Value.ref l from rx)
  obtain ⟨t, rfl⟩ := (show ∃ t, v = Value.int (-(m : Int)) t from ry)
  rw [evalPart_none]
  refine wpAny_pure (wpAny_pure ?_)
  have I3 : Inv X pins σ H2 { s2 with heap := s2.heap.push { cls := .type "slice", data := .fields #[.int (-(m : Int)) t, .none, .none] } } := I2.kept (t' := s2.toks) fun b ob z => Heap.get?_push_of_some _ z
  obtain ⟨hz, its, n, r, hl, e⟩ := I3.lstM hH
  refine del_tail (m := m) e (Heap.IsSliceOf.new ..) (.int _ _) h0 (by omega) (by omega) fun f hf => wpAny_deleteEach_nil ⟨σ, _, I3.lset (its' := its.take (its.length - m)) (t' := s2.toks) hH e hf (by rw [← hl]; exact r.take _) (by rw [List.length_take]; omega), q2⟩
end L2.PKR
/-! What runs leaves every suspended generator alone that it could not have woken: shown by a run where those would come to nothing -/
namespace GenF
open PySem
def noGen (fs : List Frame) : Bool := fs.all fun F => match F with | .ret .. => true | .gen .. => false
def noGenE : End → Prop
  | .ret _ => True
  | .susp _ _ _ _ _ _ fs => noGen fs = true
def NoG : GenState → Prop
  | .suspended _ _ _ _ fs _ => noGen fs = true
  | _ => True
def IsSusp : GenState → Prop
  | .suspended .. => True
  | _ => False
/-- suspended where it was, but with nothing behind it -/
def pz : GenState → GenState
  | .suspended _ l c p fs cl => .suspended (fun _ => .unsupported "") l c p fs cl
  | x => x
abbrev Zs := Nat → Option GenState
def mixA (Z : Zs) (a : Array GenState) : Array GenState := a.mapIdx fun i x => (Z i).getD x
def mix (Z : Zs) (s : Shared) : Shared := { s with gens := mixA Z s.gens }
structure Good (Z : Zs) (a : Array GenState) : Prop where
  held : ∀ i x, Z i = some x → a[i]? = some (pz x) ∧ IsSusp x
  free : ∀ i x, Z i = none → a[i]? = some x → NoG x
theorem mixA_get {Z : Zs} {a : Array GenState} {i : Nat} : (mixA Z a)[i]? = a[i]?.map fun x => (Z i).getD x := by
  unfold mixA; rw [Array.getElem?_mapIdx]
theorem mixA_free {Z : Zs} {a : Array GenState} {i : Nat} (h : Z i = none) : (mixA Z a)[i]? = a[i]? := by
  rw [mixA_get, h]; simp
theorem mixA_held {Z : Zs} {a : Array GenState} {i : Nat} {x : GenState} (g : Good Z a) (h : Z i = some x) : (mixA Z a)[i]? = some x := by
  rw [mixA_get, (g.held i x h).1, h]; rfl
theorem mixA_size {Z : Zs} {a : Array GenState} : (mixA Z a).size = a.size := by unfold mixA; simp
theorem mixA_set {Z : Zs} {a : Array GenState} {g : Nat} {x : GenState} (h : Z g = none) : mixA Z (a.setIfInBounds g x) = (mixA Z a).setIfInBounds g x := by
  apply Array.ext_getElem?
  intro i
  rw [mixA_get, Array.getElem?_setIfInBounds, Array.getElem?_setIfInBounds, mixA_get, mixA_size]
  by_cases e : g = i
  · subst e
    rw [if_pos rfl, if_pos rfl, h]
    split <;> rfl
  · rw [if_neg e, if_neg e]
theorem mixA_push {Z : Zs} {a : Array GenState} {x : GenState} (h : Z a.size = none) : mixA Z (a.push x) = (mixA Z a).push x := by
  apply Array.ext_getElem?
  intro i
  rw [mixA_get, Array.getElem?_push, Array.getElem?_push, mixA_get, mixA_size]
  by_cases e : i = a.size
  · subst e
    rw [if_pos rfl, if_pos rfl]
    simp [h]
  · rw [if_neg e, if_neg e]
theorem Good.none_of {Z : Zs} {a : Array GenState} {i : Nat} {x : GenState} (g : Good Z a) (h : a[i]? = some x) (n : ∀ k l c p fs cl, x ≠ .suspended k l c p fs cl) : Z i = none := by
  cases e : Z i with
  | none => rfl
  | some y =>
    obtain ⟨h1, h2⟩ := g.held i y e
    rw [h] at h1
    cases y with
    | suspended k l c p fs cl => exact absurd (Option.some.inj h1) (n _ _ _ _ _ _)
    | _ => exact h2.elim
theorem Good.none_size {Z : Zs} {a : Array GenState} (g : Good Z a) : Z a.size = none := by
  cases e : Z a.size with
  | none => rfl
  | some y =>
    have h1 := (g.held _ y e).1
    rw [Array.getElem?_eq_none (Nat.le_refl _)] at h1
    cases h1
theorem Good.set {Z : Zs} {a : Array GenState} {i : Nat} {x : GenState} (g : Good Z a) (h : Z i = none) (n : NoG x) : Good Z (a.setIfInBounds i x) := by
  refine ⟨fun j y e => ⟨?_, (g.held j y e).2⟩, fun j y e q => ?_⟩
  · have : i ≠ j := fun q => by rw [q, e] at h; cases h
    rw [Array.getElem?_setIfInBounds, if_neg this]
    exact (g.held j y e).1
  · rw [Array.getElem?_setIfInBounds] at q
    by_cases q' : i = j
    · rw [if_pos q'] at q
      split at q
      · cases q; exact n
      · cases q
    · rw [if_neg q'] at q
      exact g.free j y e q
theorem Good.push {Z : Zs} {a : Array GenState} {x : GenState} (g : Good Z a) (n : NoG x) : Good Z (a.push x) := by
  refine ⟨fun j y e => ⟨?_, (g.held j y e).2⟩, fun j y e q => ?_⟩
  · have h1 := (g.held j y e).1
    rw [Array.getElem?_push, if_neg, h1]
    intro q
    rw [q, Array.getElem?_eq_none (Nat.le_refl _)] at h1
    cases h1
  · rw [Array.getElem?_push] at q
    split at q
    · cases q; exact n
    · exact g.free j y e q
theorem mix_set {Z : Zs} {s : Shared} {g : Nat} {x : GenState} (h : Z g = none) : mix Z (s.setGen g x) = (mix Z s).setGen g x := by
  show ({ s with gens := mixA Z (s.gens.setIfInBounds g x) } : Shared) = { s with gens := (mixA Z s.gens).setIfInBounds g x }
  rw [mixA_set h]
theorem noGen_split {fs : List Frame} (h : noGen fs = true) : splitAtGen fs = none := by
  induction fs with
  | nil => rfl
  | cons F r ih =>
    have h2 : noGen r = true := by
      unfold noGen at h ⊢; rw [List.all_cons, Bool.and_eq_true] at h; exact h.2
    cases F with
    | ret k hh g l c p kp => simp [splitAtGen, ih h2]
    | gen g k l c p => simp [noGen] at h
theorem noGen_cons {F : Frame} {fs : List Frame} (h : noGen (F :: fs) = true) : noGen fs = true := by
  unfold noGen at h ⊢; rw [List.all_cons, Bool.and_eq_true] at h; exact h.2
theorem noGen_app {a b : List Frame} (ha : noGen a = true) (hb : noGen b = true) : noGen (a ++ b) = true := by
  unfold noGen at *; rw [List.all_append, ha, hb]; rfl
theorem noG_end {e : End} (h : noGenE e) : NoG e.genState := by
  cases e with
  | ret r => trivial
  | susp v g l k c p fs => exact h
theorem runs_unsup {M : Model} {m : String} : ∀ {Γ : Ctx} {p : Pos} {t : Sem PySem.Fin} {fs : List Frame} {s s' : Shared} {e : End}, Runs M Γ p t fs s e s' → t = .unsupported m → False := by
  intro Γ p t fs s s' e h
  induction h <;> intro q <;> first | (cases q; done) | (rename_i ih _; exact ih q) | (rename_i ih; exact ih q) | skip
theorem runs_mix {M : Model} {Γ : Ctx} {p : Pos} {t : Sem PySem.Fin} {fs : List Frame} {s s' : Shared} {e : End} (h : Runs M Γ p t fs s e s') :
    ∀ Z : Zs, Good Z s.gens → noGen fs = true → Good Z s'.gens ∧ noGenE e ∧ Runs M Γ p t fs (mix Z s) e (mix Z s') := by
  induction h with
  | done => exact fun Z g n => ⟨g, trivial, .done⟩
  | raise => exact fun Z g n => ⟨g, trivial, .raise⟩
  | again q _ ih => exact fun Z g n => let ⟨a, b, c⟩ := ih Z g n; ⟨a, b, .again q c⟩
  | rule _ ih => exact fun Z g n => let ⟨a, b, c⟩ := ih Z g n; ⟨a, b, .rule c⟩
  | «at» _ ih => exact fun Z g n => let ⟨a, b, c⟩ := ih Z g n; ⟨a, b, .at c⟩
  | load q _ ih => exact fun Z g n => let ⟨a, b, c⟩ := ih Z g n; ⟨a, b, .load q c⟩
  | update q _ ih => exact fun Z g n => let ⟨a, b, c⟩ := ih Z g n; ⟨a, b, .update q c⟩
  | loadIfAlive _ ih => exact fun Z g n => let ⟨a, b, c⟩ := ih Z g n; ⟨a, b, .loadIfAlive c⟩
  | point _ ih => exact fun Z g n => let ⟨a, b, c⟩ := ih Z g n; ⟨a, b, .point c⟩
  | alloc _ ih => exact fun Z g n => let ⟨a, b, c⟩ := ih Z g n; ⟨a, b, .alloc c⟩
  | fresh _ ih => exact fun Z g n => let ⟨a, b, c⟩ := ih Z g n; ⟨a, b, .fresh c⟩
  | ask _ ih => exact fun Z g n => let ⟨a, b, c⟩ := ih Z g n; ⟨a, b, .ask c⟩
  | choose q _ ih => exact fun Z g n => let ⟨a, b, c⟩ := ih Z g n; ⟨a, b, .choose q c⟩
  | os _ ih => exact fun Z g n => let ⟨a, b, c⟩ := ih Z g n; ⟨a, b, .os c⟩
  | handled _ ih => exact fun Z g n => let ⟨a, b, c⟩ := ih Z g n; ⟨a, b, .handled c⟩
  | stack _ ih => exact fun Z g n => let ⟨a, b, c⟩ := ih Z g n; ⟨a, b, .stack c⟩
  | thread _ ih => exact fun Z g n => let ⟨a, b, c⟩ := ih Z g n; ⟨a, b, .thread c⟩
  | «yield» => exact fun Z g n => ⟨g, rfl, .yield⟩
  | @genState g0 st Γ p k s e s' q _ ih =>
    intro Z g n
    obtain ⟨a, b, c⟩ := ih Z g n
    cases ez : Z g0 with
    | none => exact ⟨a, b, .genState ((mixA_free ez).trans q) c⟩
    | some y =>
      have h1 := (g.held g0 y ez)
      rw [q] at h1
      refine ⟨a, b, .genState (st := y) (mixA_held g ez) ?_⟩
      rw [Option.some.inj h1.1] at c
      cases y with
      | suspended k l c p fs cl => exact c
      | _ => exact h1.2.elim
  | @newGen Γ p k s e s' c _ ih =>
    intro Z g n
    obtain ⟨a, b, r⟩ := ih Z (g.push trivial) n
    refine ⟨a, b, .newGen ?_⟩
    have e1 : (mix Z s).gens.size = s.gens.size := mixA_size
    rw [e1]
    have e2 : ({ (mix Z s) with gens := (mix Z s).gens.push (GenState.fresh c) } : Shared) = mix Z { s with gens := s.gens.push (GenState.fresh c) } := by
      show ({ s with gens := (mixA Z s.gens).push _ } : Shared) = { s with gens := mixA Z (s.gens.push _) }
      rw [mixA_push g.none_size]
    rw [e2]; exact r
  | call _ _ ih1 ih2 =>
    intro Z g n
    obtain ⟨a, _, r⟩ := ih1 Z g rfl
    obtain ⟨a2, b2, r2⟩ := ih2 Z a rfl
    exact ⟨a2, b2, .call r r2⟩
  | callSusp _ ih1 =>
    intro Z g n
    obtain ⟨a, b, r⟩ := ih1 Z g rfl
    exact ⟨a, noGen_app b rfl, .callSusp r⟩
  | @resumeFresh Γ p g0 l k s c e₁ s₁ e s' q _ qu _ ih1 ih2 =>
    intro Z g n
    have hz := g.none_of q (by intros; exact fun q => nomatch q)
    obtain ⟨a, b, r⟩ := ih1 Z (g.set hz trivial) rfl
    obtain ⟨a2, b2, r2⟩ := ih2 Z (a.set hz (noG_end b)) rfl
    rw [mix_set hz] at r r2
    exact ⟨a2, b2, .resumeFresh ((mixA_free hz).trans q) r qu r2⟩
  | @resumeSuspended Γ p g0 rr l k s k₀ l₀ c₀ p₀ fs cl e₁ s₁ e s' q r1 qu _ ih1 ih2 =>
    intro Z g n
    cases ez : Z g0 with
    | some y =>
      have h1 := (g.held g0 y ez)
      rw [q] at h1
      cases y with
      | suspended k l c p fs cl =>
        have hh := Option.some.inj h1.1
        cases hh
        exact (runs_unsup r1 rfl).elim
      | _ => exact h1.2.elim
    | none =>
      obtain ⟨a, b, r⟩ := ih1 Z (g.set ez trivial) (g.free g0 _ ez q)
      obtain ⟨a2, b2, r2⟩ := ih2 Z (a.set ez (noG_end b)) rfl
      rw [mix_set ez] at r r2
      exact ⟨a2, b2, .resumeSuspended ((mixA_free ez).trans q) r qu r2⟩
  | resumeJustStarted q v _ ih =>
    intro Z g n
    have hz := g.none_of q (by intros; exact fun q => nomatch q)
    obtain ⟨a, b, r⟩ := ih Z g rfl
    exact ⟨a, b, .resumeJustStarted ((mixA_free hz).trans q) v r⟩
  | resumeThrowFresh q _ ih =>
    intro Z g n
    have hz := g.none_of q (by intros; exact fun q => nomatch q)
    obtain ⟨a, b, r⟩ := ih Z (g.set hz trivial) rfl
    rw [mix_set hz] at r
    exact ⟨a, b, .resumeThrowFresh ((mixA_free hz).trans q) r⟩
  | resumeRunning q _ ih =>
    intro Z g n
    have hz := g.none_of q (by intros; exact fun q => nomatch q)
    obtain ⟨a, b, r⟩ := ih Z g rfl
    exact ⟨a, b, .resumeRunning ((mixA_free hz).trans q) r⟩
  | resumeFinished q _ ih =>
    intro Z g n
    have hz := g.none_of q (by intros; exact fun q => nomatch q)
    obtain ⟨a, b, r⟩ := ih Z g rfl
    exact ⟨a, b, .resumeFinished ((mixA_free hz).trans q) r⟩
  | segRet _ _ ih1 ih2 =>
    intro Z g n
    obtain ⟨a, b, r⟩ := ih1 Z g rfl
    obtain ⟨a2, b2, r2⟩ := ih2 Z a (noGen_cons n)
    exact ⟨a2, b2, .segRet r r2⟩
  | segGen _ _ ih1 ih2 =>
    intro Z g n
    simp [noGen] at n
  | segSuspOut q _ ih1 =>
    intro Z g n
    obtain ⟨a, b, r⟩ := ih1 Z g rfl
    exact ⟨a, noGen_app b n, .segSuspOut q r⟩
  | segSuspGen q _ _ _ ih1 ih2 =>
    intro Z g n
    rw [noGen_split n] at q
    cases q
/-- what a state is with every generator that is suspended in it barred -/
def barred (s : Shared) : Shared := { s with gens := s.gens.map pz }
def zs (s : Shared) : Zs := fun i => match s.gens[i]? with
  | some (.suspended k l c p fs cl) => some (.suspended k l c p fs cl)
  | _ => none
theorem zs_some {s : Shared} {i : Nat} {x : GenState} (h : s.gens[i]? = some x) (k : IsSusp x) : zs s i = some x := by
  unfold zs; rw [h]; cases x with
  | suspended => rfl
  | _ => exact k.elim
theorem zs_inv {s : Shared} {i : Nat} {x : GenState} (h : zs s i = some x) : s.gens[i]? = some x ∧ IsSusp x := by
  unfold zs at h
  cases e : s.gens[i]? with
  | none => rw [e] at h; cases h
  | some y =>
    rw [e] at h
    cases y with
    | suspended => cases h; exact ⟨rfl, trivial⟩
    | _ => cases h
theorem good_barred (s : Shared) : Good (zs s) (barred s).gens := by
  refine ⟨fun i x h => ?_, fun i x h q => ?_⟩
  · obtain ⟨a, b⟩ := zs_inv h
    refine ⟨?_, b⟩
    show (s.gens.map pz)[i]? = _
    rw [Array.getElem?_map, a]; rfl
  · have q' : (s.gens.map pz)[i]? = some x := q
    rw [Array.getElem?_map] at q'
    cases e : s.gens[i]? with
    | none => rw [e] at q'; cases q'
    | some y =>
      rw [e] at q'
      cases q'
      cases y with
      | suspended => rw [zs_some e trivial] at h; cases h
      | _ => trivial
theorem mix_barred (s : Shared) : mix (zs s) (barred s) = s := by
  show ({ s with gens := mixA (zs s) (s.gens.map pz) } : Shared) = s
  have : mixA (zs s) (s.gens.map pz) = s.gens := by
    apply Array.ext_getElem?
    intro i
    rw [mixA_get, Array.getElem?_map]
    cases e : s.gens[i]? with
    | none => rfl
    | some y =>
      cases y with
      | suspended => rw [zs_some e trivial]; rfl
      | fresh => simp [zs, e, pz]
      | running => simp [zs, e, pz]
      | finished => simp [zs, e, pz]
  rw [this]
end GenF
namespace GenF
open PySem
variable {M : Model} {Z : Zs}
theorem wpCode_mix {Γ : Ctx} {R : Result → Shared → Prop} {p : Pos} {s : Shared} (g : Good Z s.gens) (h : wpCode M Γ R p s) :
    wpCode M Γ (fun r s' => ∃ s1, s' = mix Z s1 ∧ Good Z s1.gens ∧ R r s1) p (mix Z s) := by
  obtain ⟨r, s1, h1, h2⟩ := h
  obtain ⟨a, b, c⟩ := runs_mix h1 Z g rfl
  exact ⟨r, mix Z s1, c, s1, rfl, a, h2⟩
theorem wakes_mix {Γ : Ctx} {p : Pos} {g0 : Nat} {r : Resume} {s s' : Shared} {res : GenResult} (g : Good Z s.gens) (h : Wakes M Γ p g0 r s res s') :
    Good Z s'.gens ∧ Wakes M Γ p g0 r (mix Z s) res (mix Z s') := by
  unfold Wakes at h ⊢
  cases q : s.gens[g0]? with
  | none => rw [q] at h; exact h.elim
  | some x =>
    rw [q] at h
    cases x with
    | fresh c =>
      have hz := g.none_of q (by intros; exact fun q => nomatch q)
      rw [show (mix Z s).gens[g0]? = _ from (mixA_free hz).trans q]
      cases r with
      | throw x =>
        obtain ⟨h1, h2⟩ := h
        subst h2
        exact ⟨g.set hz trivial, h1, by rw [mix_set hz]⟩
      | send v =>
        cases v with
        | none =>
          obtain ⟨e1, s1, h1, h2, h3, h4⟩ := h
          obtain ⟨a, b, c⟩ := runs_mix h1 Z (g.set hz trivial) rfl
          rw [mix_set hz] at c
          subst h4
          exact ⟨a.set hz (noG_end b), e1, mix Z s1, c, h2, h3, by rw [mix_set hz]⟩
        | _ =>
          obtain ⟨h1, h2⟩ := h
          subst h2
          exact ⟨g, h1, rfl⟩
    | suspended k l c p0 fs cl =>
      cases ez : Z g0 with
      | some y =>
        obtain ⟨e1, s1, h1, _⟩ := h
        have h2 := (g.held g0 y ez)
        rw [q] at h2
        cases y with
        | suspended k l c p fs cl =>
          have hh := Option.some.inj h2.1
          cases hh
          exact (runs_unsup h1 rfl).elim
        | _ => exact h2.2.elim
      | none =>
        rw [show (mix Z s).gens[g0]? = _ from (mixA_free ez).trans q]
        obtain ⟨e1, s1, h1, h2, h3, h4⟩ := h
        obtain ⟨a, b, c⟩ := runs_mix h1 Z (g.set ez trivial) (g.free g0 _ ez q)
        rw [mix_set ez] at c
        subst h4
        exact ⟨a.set ez (noG_end b), e1, mix Z s1, c, h2, h3, by rw [mix_set ez]⟩
    | running =>
      have hz := g.none_of q (by intros; exact fun q => nomatch q)
      rw [show (mix Z s).gens[g0]? = _ from (mixA_free hz).trans q]
      obtain ⟨h1, h2⟩ := h
      subst h2
      exact ⟨g, h1, rfl⟩
    | finished =>
      have hz := g.none_of q (by intros; exact fun q => nomatch q)
      rw [show (mix Z s).gens[g0]? = _ from (mixA_free hz).trans q]
      obtain ⟨h1, h2⟩ := h
      subst h2
      exact ⟨g, h1, rfl⟩
theorem wp_mix {α : Type} {Γ : Ctx} {Q : α → Pos → Shared → Prop} {E : Value → Pos → Shared → Prop} (t : Sem α) : ∀ {p : Pos} {s : Shared}, Good Z s.gens → Sem.wp M Γ t Q E p s →
    Sem.wp M Γ t (fun a p' s' => ∃ s1, s' = mix Z s1 ∧ Good Z s1.gens ∧ Q a p' s1) (fun e p' s' => ∃ s1, s' = mix Z s1 ∧ Good Z s1.gens ∧ E e p' s1) p (mix Z s) := by
  induction t with
  | pure a => intro p s g h; exact ⟨s, rfl, g, h⟩
  | raise e => intro p s g h; exact ⟨s, rfl, g, h⟩
  | unsupported => intro p s g h; exact h.elim
  | finish => intro p s g h; exact h.elim
  | rule tag k ih => intro p s g h; exact ih () g h
  | «at» p' k ih => intro p s g h; exact ih () g h
  | load a part k ih => intro p s g h; obtain ⟨o, h1, h2⟩ := h; exact ⟨o, h1, ih o g h2⟩
  | update a part f k ih => intro p s g h; obtain ⟨h1, h2⟩ := h; exact ⟨h1, ih () (s := { s with heap := s.heap.update a f }) g h2⟩
  | alloc o k ih => intro p s g h; exact ih _ (s := { s with heap := s.heap.push o }) g h
  | loadIfAlive a k ih => intro p s g h; exact ih _ g h
  | point l k ih => intro p s g h; exact ih () g h
  | register => intro p s g h; exact h.elim
  | fresh k ih => intro p s g h; exact ih _ (s := { s with toks := s.toks + 1 }) g h
  | ask k ih => intro p s g h; exact ih _ g h
  | choose src n k ih => intro p s g h; obtain ⟨h1, h2⟩ := h; exact ⟨h1, ih _ (s := { s with drawn := s.drawn.bump src }) g h2⟩
  | os q l k ih => intro p s g h; exact ih _ (s := { s with os := (Os.step s.os q).fst }) g h
  | call c hh gg l k ih =>
    intro p s g h
    rw [Sem.wp_call] at h ⊢
    obtain ⟨r, s1, h1, h2⟩ := wpCode_mix g h
    obtain ⟨s2, e, g2, h3⟩ := h2
    subst e
    exact ⟨r, _, h1, ih r g2 h3⟩
  | handled own k ih => intro p s g h; exact ih _ g h
  | newGen c k ih =>
    intro p s g h
    have := ih s.gens.size (s := { s with gens := s.gens.push (GenState.fresh c) }) (g.push trivial) h
    show Sem.wp M Γ (k (mix Z s).gens.size) _ _ p { (mix Z s) with gens := (mix Z s).gens.push (GenState.fresh c) }
    have e1 : (mix Z s).gens.size = s.gens.size := mixA_size
    rw [e1]
    have e2 : ({ (mix Z s) with gens := (mix Z s).gens.push (GenState.fresh c) } : Shared) = mix Z { s with gens := s.gens.push (GenState.fresh c) } := by
      show ({ s with gens := (mixA Z s.gens).push _ } : Shared) = { s with gens := mixA Z (s.gens.push _) }
      rw [mixA_push g.none_size]
    rw [e2]; exact this
  | genState g0 k ih =>
    intro p s g h
    obtain ⟨st, q, h2⟩ := h
    have c := ih st.seen g h2
    cases ez : Z g0 with
    | none => exact ⟨st, (mixA_free ez).trans q, c⟩
    | some y =>
      have h1 := (g.held g0 y ez)
      rw [q] at h1
      refine ⟨y, mixA_held g ez, ?_⟩
      rw [Option.some.inj h1.1] at c
      cases y with
      | suspended k l c p fs cl => exact c
      | _ => exact h1.2.elim
  | resume g0 r l k ih =>
    intro p s g h
    rw [Sem.wp_resume] at h ⊢
    obtain ⟨res, s1, h1, h2⟩ := h
    obtain ⟨a, b⟩ := wakes_mix g h1
    exact ⟨res, mix Z s1, b, ih res a h2⟩
  | «yield» => intro p s g h; exact h.elim
  | stack k ih => intro p s g h; exact ih _ g h
  | fork => intro p s g h; exact h.elim
  | thread k ih => intro p s g h; exact ih _ g h
  | await => intro p s g h; exact h.elim
/-- what runs from a state with its suspended generators barred runs from the state, and they are as they were -/
theorem wpAny_kept {α : Type} {A : Around} {t : Sem α} {Q : α → Shared → Prop} {E : Value → Shared → Prop} {s : Shared} (h : wpAny M A t Q E (barred s)) :
    wpAny M A t (fun a s' => ∃ s1, s' = mix (zs s) s1 ∧ Good (zs s) s1.gens ∧ Q a s1) (fun e s' => ∃ s1, s' = mix (zs s) s1 ∧ Good (zs s) s1.gens ∧ E e s1) s := by
  intro Γ p i
  have := wp_mix (Z := zs s) t (good_barred s) (h Γ p i)
  rw [mix_barred] at this
  exact this
theorem bare_pz {x : GenState} (h : x.bare = true) : (pz x).bare = true := by cases x <;> exact h
theorem bare_barred {s : Shared} (h : PyProof.Rows.AllBare s.gens) : PyProof.Rows.AllBare (barred s).gens := by
  intro y hy
  obtain ⟨x, hx, e⟩ := Array.mem_map.mp (show y ∈ s.gens.map pz from hy)
  rw [← e]; exact bare_pz (h x hx)
theorem bare_mix {s s1 : Shared} (h : PyProof.Rows.AllBare s.gens) (h1 : PyProof.Rows.AllBare s1.gens) : PyProof.Rows.AllBare (mix (zs s) s1).gens := by
  intro y hy
  obtain ⟨i, hi⟩ := Array.getElem?_of_mem hy
  rw [show (mix (zs s) s1).gens[i]? = _ from mixA_get] at hi
  cases e : s1.gens[i]? with
  | none => rw [e] at hi; cases hi
  | some x =>
    rw [e] at hi
    cases ez : zs s i with
    | none => rw [ez] at hi; cases hi; exact h1 _ (Array.mem_of_getElem? e)
    | some z => rw [ez] at hi; cases hi; exact h _ (Array.mem_of_getElem? (zs_inv ez).1)
theorem mix_gen {s s1 : Shared} {g : Nat} {x : GenState} (h : s.gens[g]? = some x) (k : IsSusp x) (g1 : Good (zs s) s1.gens) : (mix (zs s) s1).gens[g]? = some x :=
  mixA_held g1 (zs_some h k)
end GenF
/-! a generator that sleeps, as its consumer sees it -/
namespace GenF
open PySem PySem.Spec PyProof.Rows GenW L2
/-- the heap below n -/
def cutH (h : Heap) (n : Nat) : Heap := { h with objs := h.objs.extract 0 n }
theorem cutH_get {h : Heap} {n b : Nat} (hb : b < n) : (cutH h n).get? b = h.get? b := by
  have e : (h.objs.extract 0 n)[b]? = h.objs[b]? := by
    rw [Array.getElem?_extract]
    simp only [Nat.sub_zero, Nat.zero_add]
    by_cases q : b < h.objs.size
    · rw [if_pos (by omega)]
    · rw [if_neg (by omega), Array.getElem?_eq_none (by omega)]
  unfold Heap.get? cutH
  rw [e]
theorem cutH_size {h : Heap} {n : Nat} (hn : n ≤ h.objs.size) : (cutH h n).objs.size = n := by
  show (h.objs.extract 0 n).size = n
  rw [Array.size_extract]; omega
theorem cutH_of {h : Heap} {n b : Nat} {o : Obj} (e : (cutH h n).get? b = some o) : b < n ∧ h.get? b = some o := by
  have lt : b < n := by
    refine Nat.lt_of_lt_of_le (Heap.lt_size e) ?_
    show (h.objs.extract 0 n).size ≤ n
    rw [Array.size_extract]; omega
  exact ⟨lt, by rw [← cutH_get lt]; exact e⟩
/-- what the frame at F owns: itself, and what stands under x -/
def OwnF (x : Str) (h : Heap) (F b : Addr) : Prop := b = F ∨ ∃ m, h.Ns F m ∧ m x = some (.ref b)
theorem OwnF.at {x : Str} {h h' : Heap} {F b : Addr} (k : ∀ o, h.get? F = some o → h'.get? F = some o) (ex : ∃ o, h.get? F = some o) (q : OwnF x h' F b) : OwnF x h F b := by
  rcases q with q | ⟨m, ⟨o, es, ep, ho, r⟩, hm⟩
  · exact .inl q
  · obtain ⟨o', e'⟩ := ex
    have e2 := k o' e'
    rw [ho] at e2
    cases e2
    exact .inr ⟨m, ⟨o, es, ep, e', r⟩, hm⟩
/-- the tuples of H -/
def tupsOf (H : Hp) : Hp := fun b => match H b with
  | some (.tup xs) => some (.tup xs)
  | some (.frz _ (.tup xs)) => some (.tup xs)
  | _ => none
theorem tupsOf_inv {H : Hp} {b : Addr} {u : HO} (e : tupsOf H b = some u) : ∃ xs, u = .tup xs ∧ Rd H b (.tup xs) := by
  unfold tupsOf at e
  cases q : H b with
  | none => rw [q] at e; cases e
  | some v =>
    rw [q] at e
    cases v with
    | tup xs => cases e; exact ⟨xs, rfl, .inl q⟩
    | frz o v =>
      cases v with
      | tup xs => cases e; exact ⟨xs, rfl, .inr ⟨o, q⟩⟩
      | _ => cases e
    | _ => cases e
theorem tupsOf_rd {H : Hp} {b : Addr} {xs : List V} (r : Rd H b (.tup xs)) : tupsOf H b = some (.tup xs) := by
  unfold tupsOf
  rcases r with r | ⟨o, r⟩ <;> rw [r]
theorem tupsOf_none {H : Hp} {b : Addr} (e : H b = none) : tupsOf H b = none := by unfold tupsOf; rw [e]
/-- all tuples of H stand in H' -/
def TK (H H' : Hp) : Prop := ∀ b xs, Rd H b (.tup xs) → Rd H' b (.tup xs)
theorem TK.refl (H : Hp) : TK H H := fun _ _ r => r
theorem TK.trans {H H1 H2 : Hp} (a : TK H H1) (b : TK H1 H2) : TK H H2 := fun c xs r => b c xs (a c xs r)
theorem TK.sq {K : PySem.W.Frag} {H H' : Hp} (t : TK H H') : ∀ a xs, SqT K (tupsOf H) a xs → SqT K H' a xs := fun a xs s => by
  rcases s with (s | ⟨o, s⟩) | s
  · obtain ⟨ys, e, r⟩ := tupsOf_inv s
    cases e
    exact .inl (t a xs r)
  · obtain ⟨ys, e, _⟩ := tupsOf_inv s
    cases e
  · exact .inr s
/-- a generator of the program's own, made by its consumer: what stands fixed -/
structure Gs where
  P : Program
  w : World
  K : PySem.W.Frag
  base : Heap
  A : Around
  stk : List Env
  F : Addr
  a : Addr
  g : Nat
  go : Obj
  x : Str
  H1 : Hp
  n : Nat
  it : Nat → V → Prop
abbrev Gs.M (G : Gs) : Model := model G.P G.w
/-- what its waking asks -/
structure Wk (G : Gs) (own : List (Addr × Obj)) (s : Shared) : Prop where
  bare : AllBare s.gens
  bs : ∀ b o, G.base.get? b = some o → s.heap.get? b = some o
  funs : s.heap.FunFrames G.base G.stk
  own : ∀ p ∈ own, s.heap.get? p.1 = some p.2
  data : ∀ b xs, Rd G.H1 b (.tup xs) → ObjOk G.P G.w G.H1 s.heap b (.tup xs)
/-- what a piece of its run leaves -/
structure Stp (G : Gs) (s s1 : Shared) : Prop where
  os : s1.os = s.os
  bare : AllBare s1.gens
  keep : ∀ b o, s.heap.get? b = some o → ¬ OwnF G.x s.heap G.F b → b ∉ frs G.stk → s1.heap.get? b = some o
  slot : ∀ b o, s.heap.get? b = some o → b ∈ frs G.stk → ∃ sl, s1.heap.get? b = some { o with slots := sl }
  there : ∀ b o, s.heap.get? b = some o → ∃ o', s1.heap.get? b = some o'
structure OwnOk (G : Gs) (s : Shared) (own : List (Addr × Obj)) (s1 : Shared) : Prop where
  at_ : ∀ p ∈ own, s1.heap.get? p.1 = some p.2 ∧ ∀ v, p.2.data ≠ .cell v
  new : ∀ p ∈ own, OwnF G.x s.heap G.F p.1 ∨ s.heap.objs.size ≤ p.1 ∨ p.1 = G.a
  all : ∀ b, OwnF G.x s1.heap G.F b → b ∈ own.map (·.1)
  a : (G.a, G.go) ∈ own
def GYp (G : Gs) : Protocol := fun n s v s1 kap => ∃ x own, n + 1 ≤ G.n ∧ G.it (G.n - (n + 1)) x ∧ RelV x v ∧ Stp G s s1 ∧ OwnOk G s own s1 ∧ ∀ sn, Wk G own sn → kap (.send .none) sn ∧ kap (.send (.bool true)) sn
def GRe (G : Gs) : GenEnd := fun n s r s1 => ((r = .ok (.ret .none) ∨ r = .ok .next) ∧ n = 0 ∧ Stp G s s1) ∨ ∃ e, r = .error e ∧ False
/-- it sleeps; i items are out; fp: its objects -/
def Slp (G : Gs) (i : Nat) (fp : List Addr) (s : Shared) : Prop := ∃ gs own, s.gens[G.g]? = some gs ∧ fp = own.map (·.1) ∧ (G.a, G.go) ∈ own ∧ (∀ p ∈ own, s.heap.get? p.1 = some p.2 ∧ ∀ v, p.2.data ≠ .cell v) ∧ (∀ b, OwnF G.x s.heap G.F b → b ∈ fp) ∧ (i = 0 ∨ IsSusp gs) ∧
  ∀ sn, Wk G own sn → gs.Goes G.M G.A.in1 (GRe G) (GYp G) (G.n - i) (.send .none) sn
theorem Slp.mem {G : Gs} {i : Nat} {fp : List Addr} {s : Shared} (h : Slp G i fp s) : G.a ∈ fp := by
  obtain ⟨gs, own, _, e, m, _⟩ := h
  rw [e]; exact List.mem_map.mpr ⟨_, m, rfl⟩
theorem Slp.memF {G : Gs} {i : Nat} {fp : List Addr} {s : Shared} (h : Slp G i fp s) : G.F ∈ fp := by
  obtain ⟨gs, own, _, e, m, _, q, _⟩ := h
  exact q _ (.inl rfl)
theorem Slp.obj {G : Gs} {i : Nat} {fp : List Addr} {s : Shared} (h : Slp G i fp s) : ∀ b ∈ fp, ∃ o, s.heap.get? b = some o ∧ ∀ v, o.data ≠ .cell v := by
  obtain ⟨gs, own, _, e, m, q, _⟩ := h
  intro b hb
  rw [e] at hb
  obtain ⟨p, hp, rfl⟩ := List.mem_map.mp hb
  exact ⟨p.2, q p hp⟩
/-- what keeps its objects, and it in the table, keeps its sleep -/
theorem Slp.keep {G : Gs} {i : Nat} {fp : List Addr} {s s' : Shared} (h : Slp G i fp s) (k : ∀ b ∈ fp, ∀ o, s.heap.get? b = some o → s'.heap.get? b = some o) (kg : s'.gens = s.gens ∨ (0 < i ∧ ∀ (g : Nat) (x : GenState), s.gens[g]? = some x → IsSusp x → s'.gens[g]? = some x)) : Slp G i fp s' := by
  have hF := h.memF
  obtain ⟨oF, eF, _⟩ := h.obj _ hF
  obtain ⟨gs, own, h1, h2, h3, h4, h5, h6, h7⟩ := h
  refine ⟨gs, own, ?_, h2, h3, fun p hp => ⟨k _ (by rw [h2]; exact List.mem_map.mpr ⟨p, hp, rfl⟩) _ (h4 p hp).1, (h4 p hp).2⟩, fun b hb => h5 b (hb.at (k _ hF) ⟨oF, eF⟩), h6, h7⟩
  rcases kg with kg | ⟨hi, kg⟩
  · rw [kg]; exact h1
  · rcases h6 with h6 | h6
    · omega
    · exact kg _ _ h1 h6
theorem funs_slots {base h h' : Heap} : ∀ {l : List Env}, h.FunFrames base l → (∀ b ∈ frs l, ∀ o, h.get? b = some o → ∃ sl, h'.get? b = some { o with slots := sl }) → h'.FunFrames base l
  | [], _, _ => trivial
  | env :: r, ⟨hk, ⟨L, o, hf, hn, ho, hd⟩, hr⟩, q => by
    have hL : L ∈ frs (env :: r) := by unfold frs; rw [List.filterMap_cons, hf]; exact List.mem_cons_self
    obtain ⟨sl, e⟩ := q L hL o ho
    refine ⟨hk, ⟨L, _, hf, hn, e, hd⟩, funs_slots hr fun b hb => q b ?_⟩
    unfold frs
    rw [List.filterMap_cons, hf]
    exact List.mem_cons_of_mem _ hb
/-- the consumer's context is of this generator's -/
structure GOk (G : Gs) (X : Cx) : Prop where
  eP : X.prog = G.P
  ew : X.w = G.w
  eK : X.K = G.K
  eb : X.base = G.base
  eA : X.A = G.A
  es : X.stack = G.stk
  hd : G.A.handled = none
  room : G.A.depth < recursionLimit
  gen : ∀ h : Heap, h.get? G.a = some G.go → h.IsGen G.a G.g
section
variable {G : Gs} {X : Cx} {pins : List (Addr × Obj)} {σ : L2.St} {H : Hp} {s s1 : Shared} {fp : List Addr} {i : Nat}
theorem wk_of (O : GOk G X) (I : Inv X pins σ H s) (t : TK G.H1 H) {own : List (Addr × Obj)} {gs : GenState} (ho : ∀ p ∈ own, s.heap.get? p.1 = some p.2) (hb : AllBare (s.setGen G.g gs).gens) : Wk G own (s.setGen G.g gs) := by
  refine ⟨hb, fun b o e => I.bk b o (by rw [O.eb]; exact e), ?_, ho, fun b xs r => ?_⟩
  · have := I.stack
    rw [O.eb, O.es] at this
    exact this
  · have := (t b xs r).ok I.hok
    rw [O.eP, O.ew] at this
    exact this
/-- behind a piece of its run -/
theorem inv_stp (O : GOk G X) (I : Inv X pins σ H s) (hf : ∀ b ∈ fp, FpOk X pins H b) (ho : ∀ b, OwnF G.x s.heap G.F b → b ∈ fp) (q : Stp G s s1) {h' : Heap} (k : ∀ b o, s1.heap.get? b = some o → h'.get? b = some o) {gs : GenState} (hg : gs.bare = true) :
    Inv X pins σ H { s1.setGen G.g gs with heap := h' } := by
  refine I.call' (ch := fp) q.os ⟨fun b o e n hb hx => k _ _ (q.keep b o e (fun z => hx (ho b z)) (by rw [← O.es]; exact hb)), fun b o e n hb hx => ?_, fun _ _ _ n _ => n, fun b o e hx => ?_, fun _ _ e => e, fun _ _ _ e => e, fun b ps e => ⟨#[], by rw [e]; simp⟩⟩ (fun b u e => ?_) (allBare_setGen q.bare hg) fun b hb => ?_
  · obtain ⟨sl, e1⟩ := q.slot b o e (by rw [← O.es]; exact hb)
    exact ⟨sl, k _ _ e1⟩
  · obtain ⟨o', e1⟩ := q.there b o e
    exact ⟨o', k _ _ e1⟩
  · refine (I.hok b u e).stay (fun c v hc z => k _ _ ?_) (fun _ z => z) fun _ _ z => z
    have tr : ∃ u, H c = some u := by
      rcases hc with rfl | hc
      · exact ⟨u, e⟩
      · exact ⟨_, hc⟩
    obtain ⟨u', tr⟩ := tr
    refine q.keep c v z (fun y => ?_) fun y => ?_
    · have := (hf c (ho c y)).1
      rw [this] at tr; cases tr
    · have := I.stkFree c (by rw [O.es]; exact y)
      rw [this] at tr; cases tr
  · obtain ⟨_, f1, _, f3, f4, f5⟩ := hf b hb
    exact ⟨f3, f1, f4, f5⟩
theorem next_item {E : Value → Shared → Prop} (O : GOk G X) (I : Inv X pins σ H s) (hf : ∀ b ∈ fp, FpOk X pins H b) (st : Slp G i fp s) (hi : i < G.n) (t : TK G.H1 H) :
    wpAny (model X.prog X.w) X.A (pyNext (.ref G.a)) (fun r s1 => ∃ u x fp', r = some u ∧ Inv X pins σ H s1 ∧ RelV x u ∧ G.it i x ∧ Slp G (i + 1) fp' s1 ∧ ∀ b ∈ fp', FpOk X pins H b) E s := by
  obtain ⟨gs, own, h1, h2, h3, h4, h5, h6, h7⟩ := st
  obtain ⟨m, hm⟩ : ∃ m, G.n - i = m + 1 := ⟨G.n - i - 1, by omega⟩
  rw [hm] at h7
  have hgl : G.g < s.gens.size := (Array.getElem?_eq_some_iff.mp h1).1
  have hA : X.A.handled = none := by rw [O.eA]; exact O.hd
  have hgo := h7 _ (wk_of (gs := .running) O I t (fun p hp => (h4 p hp).1) (allBare_setGen I.bare rfl))
  rw [← O.eA] at hgo
  have hgo' : gs.Goes (model X.prog X.w) X.A.in1 (fun n s₀ r s₁ => ((r = .ok (.ret .none) ∨ r = .ok .next) ∧ (n = 0 ∧ Stp G s₀ s₁)) ∨ ∃ e, r = .error e ∧ False) (GYp G) (m + 1) (.send .none) (s.setGen G.g .running) := by
    rw [O.eP, O.ew]; exact hgo
  refine wpAny_gsz (n := G.g + 1) hgl (next_genG hA I.nolimit (by rw [O.eA]; exact O.room) (O.gen _ (h4 _ h3).1) h1 hgo' (fun v s₁ gs' hbare hY => ?_) (fun s₁ hp h' hk => ?_) fun e s₁ he => he.elim)
  · intro hsz
    obtain ⟨x, own', hn, hx, rv, sp, oo, kap⟩ := hY
    have sp' : Stp G s s₁ := ⟨sp.os, sp.bare, sp.keep, sp.slot, sp.there⟩
    have I1 : Inv X pins σ H (s₁.setGen G.g gs') := inv_stp (h' := s₁.heap) O I hf h5 sp' (fun _ _ e => e) hbare
    have hg1 : G.g < s₁.gens.size := by
      have q : (s₁.setGen G.g gs').gens.size = s₁.gens.size := setGen_size _ _ _
      have hsz' : G.g + 1 ≤ (s₁.setGen G.g gs').gens.size := hsz
      omega
    have hwk := wk_of (own := own') (gs := gs') O I1 t (fun p hp => (oo.at_ p hp).1) (allBare_setGen I1.bare hbare)
    have sus : IsSusp gs' := by
      have q := (kap _ hwk).2
      cases gs' with
      | suspended => trivial
      | fresh c =>
        obtain ⟨q, _⟩ := q
        cases q
      | running => exact q.elim
      | finished => exact q.elim
    have hx' : G.it i x := by
      have e : G.n - (m + 1 - 1 + 1) = i := by omega
      rw [e] at hx; exact hx
    refine ⟨v, x, own'.map (·.1), rfl, I1, rv, hx', ⟨gs', own', setGen_at hg1, rfl, oo.a, oo.at_, fun b hb => oo.all b hb, .inr sus, fun sn hw => ?_⟩, fun b hb => ?_⟩
    · have e : G.n - (i + 1) = m := by omega
      have q := (kap sn hw).1
      rw [e, ← O.eA]
      rw [O.eP, O.ew] at q
      exact q
    · obtain ⟨p, hp, rfl⟩ := List.mem_map.mp hb
      rcases oo.new p hp with q | q | q
      · exact hf _ (h5 _ q)
      · exact I.fpOk q (I.hok.fresh q)
      · rw [q]
        exact hf _ (by rw [h2]; exact List.mem_map.mpr ⟨_, h3, rfl⟩)
  · intro _
    exact absurd hp.1 (Nat.succ_ne_zero m)
theorem next_done {E : Value → Shared → Prop} (O : GOk G X) (I : Inv X pins σ H s) (hf : ∀ b ∈ fp, FpOk X pins H b) (st : Slp G i fp s) (hi : i = G.n) (t : TK G.H1 H) :
    wpAny (model X.prog X.w) X.A (pyNext (.ref G.a)) (fun r s1 => r = none ∧ Inv X pins σ H s1) E s := by
  obtain ⟨gs, own, h1, h2, h3, h4, h5, h6, h7⟩ := st
  have hm : G.n - i = 0 := by omega
  rw [hm] at h7
  have hA : X.A.handled = none := by rw [O.eA]; exact O.hd
  have hgo := h7 _ (wk_of (gs := .running) O I t (fun p hp => (h4 p hp).1) (allBare_setGen I.bare rfl))
  rw [← O.eA] at hgo
  have hgo' : gs.Goes (model X.prog X.w) X.A.in1 (fun n s₀ r s₁ => ((r = .ok (.ret .none) ∨ r = .ok .next) ∧ (n = 0 ∧ Stp G s₀ s₁)) ∨ ∃ e, r = .error e ∧ False) (GYp G) 0 (.send .none) (s.setGen G.g .running) := by
    rw [O.eP, O.ew]; exact hgo
  refine next_genG hA I.nolimit (by rw [O.eA]; exact O.room) (O.gen _ (h4 _ h3).1) h1 hgo' (fun v s₁ gs' hbare hY => ?_) (fun s₁ hp h' hk => ?_) fun e s₁ he => he.elim
  · obtain ⟨x, own', hn, hx, rv, sp, oo, kap⟩ := hY
    have sp' : Stp G s s₁ := ⟨sp.os, sp.bare, sp.keep, sp.slot, sp.there⟩
    have I1 : Inv X pins σ H (s₁.setGen G.g gs') := inv_stp (h' := s₁.heap) O I hf h5 sp' (fun _ _ e => e) hbare
    have hwk := wk_of (own := own') (gs := gs') O I1 t (fun p hp => (oo.at_ p hp).1) (allBare_setGen I1.bare hbare)
    exact (kap _ hwk).1.elim
  · obtain ⟨_, sp⟩ := hp
    have sp' : Stp G s s₁ := ⟨sp.os, sp.bare, sp.keep, sp.slot, sp.there⟩
    exact ⟨rfl, inv_stp (gs := .finished) O I hf h5 sp' hk rfl⟩
end
end GenF
/-! for, and a list comprehension, over a generator of the program's own -/
namespace GenF
open PySem PySem.Spec PyProof.Rows GenW L2
def Itg (G : Gs) : It := ⟨fun i H => i < G.n ∧ TK G.H1 H, fun i H x H' => H' = H ∧ G.it i x, fun i H => i = G.n ∧ TK G.H1 H⟩
def PIEG (X : Cx) (pins : List (Addr × Obj)) (σ : L2.St) (R : It → Hp → Prop) (v : Value) (s2 : Shared) : Prop :=
  ∃ (G : Gs) (fp : List Addr) (H2 : Hp), v = .ref G.a ∧ GOk G X ∧ Inv X pins σ H2 s2 ∧ Slp G 0 fp s2 ∧ (∀ b ∈ fp, FpOk X pins H2 b) ∧ R (Itg G) H2
structure PIG (X : Cx) (iter : Expr) (wi : TI) : Prop where
  run : ∀ (pins : List (Addr × Obj)) (s : Shared) (σ : L2.St) (H : Hp) (R : It → Hp → Prop), Inv X pins σ H s → wi σ H R →
    wpAny (model X.prog X.w) X.A (eval iter X.env) (fun v s1 => wpAny (model X.prog X.w) X.A (pyIter v) (PIEG X pins σ R) X.xe s1) X.xe s
section
variable {X : Cx} {pins : List (Addr × Obj)} {σ : L2.St} {H : Hp} {s s1 : Shared}
theorem inv_gens {gs : Array GenState} (I : Inv X pins σ H s) (hb : AllBare gs) : Inv X pins σ H { s with gens := gs } :=
  ⟨I.ok, I.os, hb, I.base, I.loc, I.cell, I.free, I.freeC, I.pin, I.hok, I.len⟩
theorem inv_barred (I : Inv X pins σ H s) : Inv X pins σ H (barred s) := inv_gens I (bare_barred I.bare)
theorem inv_mix (hb : AllBare s.gens) (I : Inv X pins σ H s1) : Inv X pins σ H (mix (zs s) s1) := inv_gens I (bare_mix hb I.bare)
theorem sp_mix {D : Ends} {f : Flow} (hb : AllBare s.gens) (h : SP X pins D f s1) : SP X pins D f (mix (zs s) s1) := by
  cases f with
  | next => obtain ⟨σ', H', I, q⟩ := h; exact ⟨σ', H', inv_mix hb I, q⟩
  | brk => obtain ⟨σ', H', I, q⟩ := h; exact ⟨σ', H', inv_mix hb I, q⟩
  | cont => obtain ⟨σ', H', I, q⟩ := h; exact ⟨σ', H', inv_mix hb I, q⟩
  | ret u => obtain ⟨v, σ', H', I, r, q⟩ := h; exact ⟨v, σ', H', inv_mix hb I, r, q⟩
/-- what sleeps in the table sleeps on -/
def GKp (s s' : Shared) : Prop := ∀ (g : Nat) (x : GenState), s.gens[g]? = some x → IsSusp x → s'.gens[g]? = some x
theorem GKp.trans {s s' s'' : Shared} (a : GKp s s') (b : GKp s' s'') : GKp s s'' := fun g x e k => b g x (a g x e k) k
/-- a piece that raises nothing, run while generators sleep -/
theorem kept_run {α : Type} {A : Around} {t : Sem α} {Q Q' : α → Shared → Prop} {E E' : Value → Shared → Prop} {M : Model} (hE : ∀ e s, ¬ E e s) (h : wpAny M A t Q E (barred s)) (hQ : ∀ a s1, Q a s1 → GKp s (mix (zs s) s1) → Q' a (mix (zs s) s1)) : wpAny M A t Q' E' s := by
  refine wpAny_mono (wpAny_kept h) (fun a s' ⟨s1, e, g, q⟩ => ?_) fun e s' ⟨s1, _, _, q⟩ => (hE _ _ q).elim
  subst e
  exact hQ a s1 q fun n x hx k => mix_gen hx k g
theorem gen_go {G : Gs} {tg : Expr} {u : Value} {M : Model} {A : Around} {E : Value → Shared → Prop} {Q : Unit → Shared → Prop} (hg : s.heap.IsGen G.a G.g) (h : Q () s) : wpAny M A (letOwnedTupleGo tg (.ref G.a) u) Q E s := by
  obtain ⟨o, nm, qn, ho, hc, hd, _⟩ := hg
  exact go_of ho hc hd (by decide) h
theorem Slp.gen {G : Gs} {i : Nat} {fp : List Addr} (O : GOk G X) (st : Slp G i fp s) : s.heap.IsGen G.a G.g := by
  obtain ⟨gs, own, h1, h2, h3, h4, _⟩ := st
  exact O.gen _ (h4 _ h3).1
/-- behind a turn: its objects were pinned -/
theorem slp_on {G : Gs} {i : Nat} {fp : List Addr} {s' : Shared} {pins2 : List (Addr × Obj)} {σ' : L2.St} {H' : Hp} (hi : 0 < i) (st : Slp G i fp s) (fr : ∀ b ∈ fp, FpOk X pins H b) (I : Inv X (pins2 ++ pinsAt fp s.heap) σ' H' s') (k : GKp s s') :
    Slp G i fp s' ∧ ∀ b ∈ fp, FpOk X pins H' b := by
  have pin : ∀ b ∈ fp, ∀ o, s.heap.get? b = some o → s'.heap.get? b = some o ∧ H' b = none := fun b hb o e =>
    let z := I.pin (b, o) (List.mem_append_right _ (List.mem_append_right _ (mem_pinsAt hb e)))
    ⟨z.1, z.2.1⟩
  refine ⟨st.keep (fun b hb o e => (pin b hb o e).1) (.inr ⟨hi, k⟩), fun b hb => ?_⟩
  obtain ⟨o, e, _⟩ := st.obj b hb
  exact ⟨(pin b hb o e).2, (fr b hb).2⟩
end
section
variable {X : Cx}
theorem ps_forG {tg iter : Expr} {body : List Stmt} {wi : TI} {g : TG} {tb : TS} {pos : Pos} (hx : X.xe = fun _ _ => False) (hi : PIG X iter wi) (hg : PG X tg g) (hb : PSs X body tb)
    (hs : ∀ x, foldedSetIterable iter X.env x = pure x := by intro _; rfl) : PS X (.For tg iter body [] pos) (tFor wi g tb) := by
  refine ⟨fun pins s σ H D I h => ?_⟩
  have nx : ∀ e s, ¬ X.xe e s := fun e s z => by rw [hx] at z; exact z
  have nv : ∀ {α : Type} {t : Sem α} {Q : α → Shared → Prop} {E : Value → Shared → Prop} {s : Shared}, wpAny (model X.prog X.w) X.A t Q X.xe s → wpAny (model X.prog X.w) X.A t Q E s := fun q => wpAny_mono q (fun _ _ z => z) fun e s z => (nx e s z).elim
  refine wpAny_For (thn (hi.run pins s σ H _ I h) fun v s1 h1 => thn h1 fun itv s2 h2 => ?_) hs
  obtain ⟨G, fp, H2, e, O, I2, st2, f2, W, ⟨m0, w0⟩, turn⟩ := h2
  subst e
  refine codeAny_forLoop_any (fun n s' => ∃ i fp σ' H', Inv X pins σ' H' s' ∧ Slp G i fp s' ∧ (∀ b ∈ fp, FpOk X pins H' b) ∧ W i n σ' H') ?_ m0 ⟨0, fp, σ, H2, I2, st2, f2, w0⟩
  rintro n s3 ⟨i, fp3, σ3, H3, I3, st3, fr3, w3⟩
  rcases turn i n σ3 H3 w3 with ⟨⟨he, tk⟩, qn⟩ | ⟨⟨hl, tk⟩, N, hN, step⟩
  · refine nv (thn (next_done O I3 fr3 st3 he tk) fun r s4 ⟨hr, I4⟩ => ?_)
    subst hr
    exact wpAny_execs_nil ⟨σ3, H3, I4, qn⟩
  · refine nv (thn (next_item O I3 fr3 st3 hl tk) fun r s4 ⟨u, x, fp4, hr, I4, rx, hx4, st4, fr4⟩ => ?_)
    subst hr
    refine gen_go (st4.gen O) ?_
    have I5 := I4.pinned fr4 st4.obj
    refine kept_run nx (hg.run _ _ σ3 H3 x u _ (inv_barred I5) rx (step x H3 ⟨rfl, hx4⟩)) fun _ s5 ⟨σ6, H6, I6, q6⟩ k6 => ?_
    have I6' := inv_mix I5.bare I6
    refine kept_run nx (hb.run _ _ σ6 H6 _ (inv_barred I6') q6) fun f s7 q7 k7 => ?_
    have q7' := sp_mix (s := mix (zs s4) s5) I6'.bare q7
    have kk := k6.trans k7
    have again : ∀ {σ7 : L2.St} {H7 : Hp}, Inv X (pins ++ pinsAt fp4 s4.heap) σ7 H7 (mix (zs (mix (zs s4) s5)) s7) → N σ7 H7 → ∃ m, m < n ∧ ∃ i fp σ' H', Inv X pins σ' H' (mix (zs (mix (zs s4) s5)) s7) ∧ Slp G i fp (mix (zs (mix (zs s4) s5)) s7) ∧ (∀ b ∈ fp, FpOk X pins H' b) ∧ W i m σ' H' := fun {σ7 H7} I7 n7 => by
      obtain ⟨m', hm, w7⟩ := hN σ7 H7 n7
      obtain ⟨st7, fr7⟩ := slp_on (Nat.succ_pos i) st4 fr4 I7 kk
      exact ⟨m', hm, i + 1, fp4, σ7, H7, I7.unpinned, st7, fr7, w7⟩
    cases f with
    | next => obtain ⟨σ7, H7, I7, n7⟩ := q7'; exact again I7 n7
    | cont => obtain ⟨σ7, H7, I7, n7⟩ := q7'; exact again I7 n7
    | brk => obtain ⟨σ7, H7, I7, q7⟩ := q7'; exact ⟨σ7, H7, I7.unpinned, q7⟩
    | ret v => obtain ⟨x7, σ7, H7, I7, r7, q7⟩ := q7'; exact ⟨x7, σ7, H7, I7.unpinned, r7, q7⟩
theorem lc_coreG {pins : List (Addr × Obj)} {s : Shared} {σ : L2.St} {H : Hp} {Q : VK} {elt tg iter : Expr} {ifs : List Expr} {scope : Scope} {own : List (Str × Nat)} {pos pos' : Pos} {wi : TI} {g : TG} {tt : TT} {te : TE} {use : Option (Value → Sem Unit)} {Qf : Value → Shared → Prop}
    (hN : X.N.Nodup) (I : Inv X pins σ H s) (hi : PIG X iter wi) (ok : BlkOk X.N X.env.scope scope own)
    (hg : ∀ (s : Shared) (H : Hp) (C : Addr) (cl : List (Str × Addr)) (fp : List Addr), PG (X.blk s H scope (compEnvC scope cl C X.env) fp) tg g)
    (ht : ∀ (s : Shared) (H : Hp) (C : Addr) (cl : List (Str × Addr)) (fp : List Addr), PTs (X.blk s H scope (compEnvC scope cl C X.env) fp) ifs tt)
    (he : ∀ (s : Shared) (H : Hp) (C : Addr) (cl : List (Str × Addr)) (fp : List Addr), PE (X.blk s H scope (compEnvC scope cl C X.env) fp) elt te)
    (hs : ∀ x, foldedSetIterable iter X.env x = pure x) (h : tLc wi g tt te (own.map (·.2)) σ H Q)
    (hRR : ∀ D C s' m H', Inv X pins σ H' s' → Q (.ref D) H' → s'.heap.Ns C m → FpOk X pins H' C → compPost (model X.prog X.w) X.A X.xe use Qf (.ref D) C (.ok .next) s') :
    wpAny (model X.prog X.w) X.A (comprehension (.ListComp elt [⟨tg, iter, ifs, 0⟩] scope pos) scope X.env pos' (newList []) false (eval iter X.env) use) Qf X.xe s := by
  have hfree : ∀ y ∈ scope.names, y.2 = .free → ∃ c, X.env.cells.lookup y.1 = some c := fun y hy e => (ok.free y hy e).elim (fun k => I.ok.has _ (.inl k)) fun k => I.ok.has _ (.inr k)
  refine wpAny_comprehension_free (use := use) rfl hs (closure_ok hfree) ok.kind (fun y hy e => by rw [ok.uniq y hy, e]) (thn (hi.run pins s σ H _ I h) fun xv s1 h1 => thn h1 fun itv s2 h2 => ?_)
  obtain ⟨G, fp, H2, e, O, I2, st2, f2, q⟩ := h2
  subst e
  refine wpAny_newObj_type (newEnv_comp ?_) (by show 0 ≤ sizeLine; decide)
  generalize hD : s2.heap.objs.size = D
  obtain ⟨W, ⟨m0, w0⟩, turn⟩ := q D (I2.hok.fresh (Nat.le_of_eq hD))
  generalize hs3 : ({ s2 with heap := s2.heap.push { cls := .type "list", data := .seq ([] : List Value).toArray } } : Shared) = s3
  have h3 : s3.heap = s2.heap.push { cls := .type "list", data := .seq ([] : List Value).toArray } := by rw [← hs3]
  have I3 : Inv X pins σ (upd H2 D (.lst [])) s3 := by
    rw [← hs3]
    refine I2.laid (t' := s2.toks) (fun b o e => Heap.get?_push_of_some _ e) (Nat.le_of_eq hD) ⟨Nat.zero_le _, [], 0, .nil, ?_⟩
    rw [← hD]
    exact Heap.get?_push_size _ rfl
  have f3 : ∀ b ∈ fp, FpOk X pins (upd H2 D (.lst [])) b ∧ b < s3.heap.objs.size := fun b hb => by
    obtain ⟨o, e, _⟩ := st2.obj b hb
    have hlt := Heap.lt_size e
    refine ⟨⟨?_, (f2 b hb).2⟩, by rw [h3, Heap.size_push]; exact Nat.lt_succ_of_lt hlt⟩
    rw [upd_ne (by rw [← hD]; exact Nat.ne_of_lt hlt)]
    exact (f2 b hb).1
  have st3 : Slp G 0 fp s3 := st2.keep (fun b _ o e => by rw [h3]; exact Heap.get?_push_of_some _ e) (.inl (by rw [← hs3]))
  have I4 := block_start I3 ok hN f3
  have pg := hg s3 (upd H2 D (.lst [])) s3.heap.objs.size (cellsFrom (s3.heap.objs.size + 1) scope.names (cloFrom X.env.cells scope.names [])) fp
  have pt := ht s3 (upd H2 D (.lst [])) s3.heap.objs.size (cellsFrom (s3.heap.objs.size + 1) scope.names (cloFrom X.env.cells scope.names [])) fp
  have pe := he s3 (upd H2 D (.lst [])) s3.heap.objs.size (cellsFrom (s3.heap.objs.size + 1) scope.names (cloFrom X.env.cells scope.names [])) fp
  show codeAny _ _ (.compStart (.ListComp elt [⟨tg, iter, ifs, 0⟩] scope pos) 0 (.ref G.a) (.ref D) (compEnvC scope (cellsFrom (s3.heap.objs.size + 1) scope.names (cloFrom X.env.cells scope.names [])) s3.heap.objs.size X.env)) (compPost (model X.prog X.w) X.A X.xe use Qf (.ref D) s3.heap.objs.size) { s3 with heap := pushCells (s3.heap.push { cls := .type "dict", data := .dict #[] }) scope.names }
  generalize hce : compEnvC scope (cellsFrom (s3.heap.objs.size + 1) scope.names (cloFrom X.env.cells scope.names [])) s3.heap.objs.size X.env = ce at I4 pg pt pe ⊢
  have cL : ce.locals = s3.heap.objs.size := by subst hce; rfl
  generalize hH3 : upd H2 D (.lst []) = H3 at I3 I4 pg pt pe w0 f3
  generalize hs4 : ({ s3 with heap := pushCells (s3.heap.push { cls := .type "dict", data := .dict #[] }) scope.names } : Shared) = s4 at I4 ⊢
  have st4 : Slp G 0 fp s4 := st3.keep (fun b _ o e => by rw [← hs4]; exact pushCells_keeps _ _ _ _ (Heap.get?_push_of_some _ e)) (.inl (by rw [← hs4]))
  have OB : GOk G (X.blk s3 H3 scope ce fp) := ⟨O.eP, O.ew, O.eK, O.eb, O.eA, O.es, O.hd, O.room, O.gen⟩
  have f4 : ∀ b ∈ fp, FpOk (X.blk s3 H3 scope ce fp) [] H3 b := fun b hb => ⟨(f3 b hb).1.1, (I4.ok.exf b hb).1, I4.ok.exfs b hb, .inl hb, fun x c e => (I4.ok.exf b hb).2 x c e, fun p hp => absurd (show p ∈ ([] : List (Addr × Obj)) ++ [] from hp) (by simp)⟩
  have nx : ∀ (e : Value) (s : Shared), ¬ (X.blk s3 H3 scope ce fp).xe e s := fun _ _ z => z
  have loop : codeAny (model X.prog X.w) X.A (.compLoop (.ListComp elt [⟨tg, iter, ifs, 0⟩] scope pos) 0 (.ref G.a) (.ref D) ce) (compPost (model X.prog X.w) X.A X.xe use Qf (.ref D) s3.heap.objs.size) s4 := by
    refine compLoop_any (fun n s' => ∃ i fq H', Inv (X.blk s3 H3 scope ce fp) [] (wipe σ (own.map (·.2))) H' s' ∧ Slp G i fq s' ∧ (∀ b ∈ fq, FpOk (X.blk s3 H3 scope ce fp) [] H' b) ∧ W i n H') ?_ m0 ⟨0, fp, H3, I4, st4, f4, w0⟩
    rintro n s5 ⟨i, fq, H5, I5, st5, f5, w5⟩
    rcases turn i n H5 w5 with ⟨⟨hend, tk⟩, qq⟩ | ⟨⟨hl, tk⟩, Nx, hNx, step⟩
    · refine thnF (next_done (X := X.blk s3 H3 scope ce fp) (E := fun _ _ => False) OB I5 f5 st5 hend tk) fun r s6 ⟨hr, I6⟩ => ?_
      subst hr
      have I7 : Inv X pins σ H5 s6 := I3.call' (ch := fp) I6.os I6.base I6.hok I6.bare fun b hb => ⟨(f3 b hb).1.2.2.2.1, (f3 b hb).1.2.1, (f3 b hb).1.2.2.2.2.1, (f3 b hb).1.2.2.2.2.2⟩
      have nC : H5 s3.heap.objs.size = none := by
        have z : H5 ce.locals = none := I6.free
        rw [cL] at z
        exact z
      obtain ⟨m, hn, _⟩ := I6.loc
      have hn : s6.heap.Ns ce.locals m := hn
      rw [cL] at hn
      exact hRR D s3.heap.objs.size s6 m H5 I7 qq hn (I3.fpOk (Nat.le_refl _) nC)
    · refine thnF (next_item (X := X.blk s3 H3 scope ce fp) (E := fun _ _ => False) OB I5 f5 st5 hl tk) fun r s6 ⟨u, x, fp6, hr, I6, rx, hx6, st6, f6⟩ => ?_
      subst hr
      refine gen_go (st6.gen OB) ?_
      have I7 := I6.pinned f6 st6.obj
      refine kept_run nx (pg.run _ _ _ H5 x u _ (inv_barred I7) rx (step x H5 ⟨rfl, hx6⟩)) fun _ s7 ⟨σ8, H8, I8, hw8, q8⟩ k8 => ?_
      have I8' := inv_mix I7.bare I8
      refine kept_run nx (pt.run _ _ σ8 H8 _ (inv_barred I8') q8) fun b s8 ⟨H9, I9, q9⟩ k9 => ?_
      have I9' := inv_mix I8'.bare I9
      have k9' := k8.trans k9
      have fin : ∀ {s' : Shared} {H' : Hp}, Inv (X.blk s3 H3 scope ce fp) ([] ++ pinsAt fp6 s6.heap) σ8 H' s' → GKp s6 s' → Nx H' → ∃ m, m < n ∧ ∃ i fq H', Inv (X.blk s3 H3 scope ce fp) [] (wipe σ (own.map (·.2))) H' s' ∧ Slp G i fq s' ∧ (∀ b ∈ fq, FpOk (X.blk s3 H3 scope ce fp) [] H' b) ∧ W i m H' := fun {s' H'} I' k' nxt => by
        obtain ⟨m', hm, w'⟩ := hNx H' nxt
        obtain ⟨st', f'⟩ := slp_on (Nat.succ_pos i) st6 f6 I' k'
        have hl : (wipe σ (own.map (·.2))).length = σ8.length := by rw [← hw8, wipe_length]
        refine ⟨m', hm, i + 1, fp6, H', (I'.unpinned (pins := [])).weak hl (fun j v e => ?_), st', f', w'⟩
        rw [← hw8] at e
        exact (wipe_some e).1
      cases b with
      | false =>
        simp only [Bool.false_eq_true, if_false] at q9 ⊢
        exact fin I9' k9' q9
      | true =>
        simp only [if_true] at q9 ⊢
        refine kept_run nx (pe.run _ _ σ8 H9 _ (inv_barred I9') q9) fun z s9 ⟨yv, H10, I10, r10, acc, hD10, hz10, nxt⟩ k10 => ?_
        have I10' := inv_mix I9'.bare I10
        refine kept_run (E := fun _ _ => False) (fun _ _ z => z) (app_ok (X := X.blk s3 H3 scope ce fp) (Q := fun _ s' => ∃ H', Inv (X.blk s3 H3 scope ce fp) ([] ++ pinsAt fp6 s6.heap) σ8 H' s' ∧ Nx H') (inv_barred I10') hD10 hz10 r10 fun s11 I11 => ⟨_, I11, nxt⟩) fun _ s10 ⟨H11, I11, n11⟩ k11 => ?_
        exact fin (inv_mix I10'.bare I11) ((k9'.trans k10).trans k11) n11
  exact codeAny_compStart_list loop (wpAny_pyIter_gen (st4.gen OB) loop)
theorem pe_lcG {elt tg iter : Expr} {ifs : List Expr} {scope : Scope} {own : List (Str × Nat)} {pos : Pos} {wi : TI} {g : TG} {tt : TT} {te : TE} (hN : X.N.Nodup) (hi : PIG X iter wi) (ok : BlkOk X.N X.env.scope scope own)
    (hg : ∀ (s : Shared) (H : Hp) (C : Addr) (cl : List (Str × Addr)) (fp : List Addr), PG (X.blk s H scope (compEnvC scope cl C X.env) fp) tg g)
    (ht : ∀ (s : Shared) (H : Hp) (C : Addr) (cl : List (Str × Addr)) (fp : List Addr), PTs (X.blk s H scope (compEnvC scope cl C X.env) fp) ifs tt)
    (he : ∀ (s : Shared) (H : Hp) (C : Addr) (cl : List (Str × Addr)) (fp : List Addr), PE (X.blk s H scope (compEnvC scope cl C X.env) fp) elt te) (hs : ∀ x, foldedSetIterable iter X.env x = pure x := by intro _; rfl) :
    PE X (.ListComp elt [⟨tg, iter, ifs, 0⟩] scope pos) (tLc wi g tt te (own.map (·.2))) := by
  refine ⟨fun pins s σ H Q I h => ?_⟩
  rw [eval_ListComp]
  refine lc_coreG hN I hi ok hg ht he hs h fun D C s' m H' I' q hn f => ⟨m, hn, fun h'' sb => ?_⟩
  obtain ⟨f0, f1, f2, f3, f4, f5⟩ := f
  exact ⟨.ref D, H', I'.turned (t' := s'.toks) (fun b o hb e => (sb.2 b hb).trans e) f0 f1 f3 f4 f5, rfl, q⟩
end
end GenF
/-! how an own generator is made, and woken -/
namespace GenF
open PySem PySem.Spec PyProof.Rows GenW L2
/-- what stands fixed, as the generator's side sees it -/
structure GStat (G : Gs) (mg : Str → Option Value) : Prop where
  mod : Mod G.K mg G.base
  bsz : G.base.objs.size ≤ G.F
  bnt : ∀ b o, G.base.get? b = some o → G.H1 b = none
  stk : ∀ b ∈ frs G.stk, b < G.F ∧ G.H1 b = none
  frames : G.A.frames = some G.stk
  hd : G.A.handled = none
  tup : ∀ b xs, Rd G.H1 b (.tup xs) → b < G.F
  Fa : G.F < G.a
  goc : ∀ v, G.go.data ≠ .cell v
/-- the generator's view: the tuples it may read, and all that is younger than its frame, as they stand -/
def Hw0 (G : Gs) (sn : Shared) : Hp := fun b =>
  if b < G.F then (match tupsOf G.H1 b, sn.heap.get? b with
    | some (.tup xs), some o => some (.frz o (.tup xs))
    | _, _ => none)
  else if b = G.F then none else (sn.heap.get? b).map fun o => .frz o (.own b)
theorem Hw0_none {G : Gs} {sn : Shared} {b : Addr} (lt : b < G.F) (e : G.H1 b = none) : Hw0 G sn b = none := by
  unfold Hw0
  rw [if_pos lt, tupsOf_none e]
theorem Hw0_F {G : Gs} {sn : Shared} : Hw0 G sn G.F = none := by
  unfold Hw0
  rw [if_neg (Nat.lt_irrefl _), if_pos rfl]
theorem Hw0_up {G : Gs} {sn : Shared} {b : Addr} {o : Obj} (lt : G.F < b) (e : sn.heap.get? b = some o) : Hw0 G sn b = some (.frz o (.own b)) := by
  unfold Hw0
  rw [if_neg (Nat.lt_asymm lt), if_neg (Nat.ne_of_gt lt), e]; rfl
theorem Hw0_upn {G : Gs} {sn : Shared} {b : Addr} (lt : G.F < b) (e : sn.heap.get? b = none) : Hw0 G sn b = none := by
  unfold Hw0
  rw [if_neg (Nat.lt_asymm lt), if_neg (Nat.ne_of_gt lt), e]; rfl
theorem Hw0_lt {G : Gs} {sn : Shared} {b : Addr} {u : HO} (lt : b < G.F) (e : Hw0 G sn b = some u) : ∃ xs o, u = .frz o (.tup xs) ∧ Rd G.H1 b (.tup xs) ∧ sn.heap.get? b = some o := by
  unfold Hw0 at e
  rw [if_pos lt] at e
  cases q : tupsOf G.H1 b with
  | none => rw [q] at e; cases e
  | some v =>
    obtain ⟨xs, rfl, r⟩ := tupsOf_inv q
    rw [q] at e
    cases q2 : sn.heap.get? b with
    | none => rw [q2] at e; cases e
    | some o => rw [q2] at e; cases e; exact ⟨xs, o, rfl, r, rfl⟩
theorem Hw0_ok {G : Gs} {own : List (Addr × Obj)} {sn : Shared} (W : Wk G own sn) : HOk G.P G.w (Hw0 G sn) sn.heap := fun b u e => by
  by_cases lt : b < G.F
  · obtain ⟨xs, o, rfl, r, e2⟩ := Hw0_lt lt e
    exact ⟨e2, W.data b xs r⟩
  · by_cases eq : b = G.F
    · rw [eq, Hw0_F] at e; cases e
    · have gt : G.F < b := Nat.lt_of_le_of_ne (Nat.le_of_not_lt lt) (Ne.symm eq)
      cases q : sn.heap.get? b with
      | none => rw [Hw0_upn gt q] at e; cases e
      | some o => rw [Hw0_up gt q] at e; cases e; exact ⟨q, _, q⟩
/-- the tuples are read in it -/
theorem Hw0_sq {G : Gs} {mg : Str → Option Value} {own : List (Addr × Obj)} {sn : Shared} (S : GStat G mg) (W : Wk G own sn) : ∀ a xs, SqT G.K (tupsOf G.H1) a xs → SqT G.K (Hw0 G sn) a xs := fun a xs s => by
  rcases s with (s | ⟨o, s⟩) | s
  · obtain ⟨ys, e, r⟩ := tupsOf_inv s
    cases e
    obtain ⟨_, its, _, o, ho, _⟩ := W.data a xs r
    refine .inl (.inr ⟨o, ?_⟩)
    unfold Hw0
    rw [if_pos (S.tup a xs r), tupsOf_rd r, ho]
  · obtain ⟨ys, e, _⟩ := tupsOf_inv s
    cases e
  · exact .inr s
/-- .. and back -/
theorem Hw0_qs {G : Gs} {mg : Str → Option Value} {sn : Shared} : ∀ a xs, (Hw0 G sn a = some (.tup xs) ∨ ∃ o, Hw0 G sn a = some (.frz o (.tup xs))) → tupsOf G.H1 a = some (.tup xs) := fun a xs s => by
  have low : ∀ u, Hw0 G sn a = some u → (∀ o b, u ≠ .frz o (.own b)) → a < G.F := fun u e n => by
    by_cases lt : a < G.F
    · exact lt
    · by_cases eq : a = G.F
      · rw [eq, Hw0_F] at e; cases e
      · have gt : G.F < a := Nat.lt_of_le_of_ne (Nat.le_of_not_lt lt) (Ne.symm eq)
        cases q : sn.heap.get? a with
        | none => rw [Hw0_upn gt q] at e; cases e
        | some o => rw [Hw0_up gt q] at e; cases e; exact absurd rfl (n _ _)
  rcases s with s | ⟨o, s⟩
  · obtain ⟨ys, o', e, _⟩ := Hw0_lt (low _ s (fun _ _ => HO.noConfusion)) s
    cases e
  · obtain ⟨ys, o', e, r, _⟩ := Hw0_lt (low _ s (fun _ _ z => by cases z)) s
    cases e
    exact tupsOf_rd r
/-- the context of a piece of its run -/
def cxG (G : Gs) (mg : Str → Option Value) (N : List Str) (qual : Str) (scope : Scope) (f : Addr) (cd : Value) (Hw : Hp) (sn : Shared) : Cx where
  prog := G.P
  w := G.w
  K := G.K
  mg := mg
  base := G.base
  A := G.A.in1.deeper (envOfC qual scope G.F f cd)
  N := N
  s_0 := { sn with heap := cutH sn.heap G.F }
  H_0 := Hw
  env := envOfC qual scope G.F f cd
  outer := G.stk
  stack := envOfC qual scope G.F f cd :: G.stk
  ex := []
  calm := true
  fn := fun _ => true
  pn := []
  xe := fun _ _ => False
structure NoCells (sc : Scope) : Prop where
  kind : sc.kind = .function
  co : sc.isCoroutine = false
  gen : sc.isGenerator = true
  cells : ∀ n, cellsFrom n sc.names [] = []
  none : ∀ x, sc.names.lookup x ≠ some .cell ∧ sc.names.lookup x ≠ some .free
section
variable {G : Gs} {mg : Str → Option Value} {N : List Str} {qual : Str} {scope : Scope} {f : Addr} {cd : Value} {own : List (Addr × Obj)} {sn s1 : Shared} {Hw : Hp} {σ : L2.St}
theorem inv_wake (S : GStat G mg) (C : NoCells scope) (W : Wk G own sn) (lo : ∀ b, b < G.F → Hw b = Hw0 G sn b) (hF : Hw G.F = none) (ok : HOk G.P G.w Hw sn.heap) {m : Str → Option Value} (hN : sn.heap.Ns G.F m) (hl : σ.length = N.length)
    (hσ : ∀ (i : Nat) (x : Str) (v : V), N[i]? = some x → σ[i]? = some (some v) → ∃ u, RelV v u ∧ m x = some u ∧ scope.names.lookup x = some .local) : Inv (cxG G mg N qual scope f cd Hw sn) [] σ Hw sn := by
  have lt := hN.lt
  have csz : (cutH sn.heap G.F).objs.size = G.F := cutH_size (Nat.le_of_lt lt)
  have cu : ∀ b o, b < G.F → sn.heap.get? b = some o → (cutH sn.heap G.F).get? b = some o := fun b o l e => by rw [cutH_get l]; exact e
  have nc : ∀ x, (envOfC qual scope G.F f cd).cells.lookup x = none := fun x => by
    show (cellsFrom (G.F + 1) scope.names []).lookup x = none
    rw [C.cells]; rfl
  have nc' : ∀ {x c} {p : Prop}, (envOfC qual scope G.F f cd).cells.lookup x = some c → p := fun {x c p} e => by rw [nc x] at e; cases e
  have noA : ∀ {b : Addr} {p : Prop}, b ∈ (cxG G mg N qual scope f cd Hw sn).ex → p := fun {b p} z => absurd (show b ∈ ([] : List Addr) from z) (by simp)
  have hlow : ∀ b, b < G.F → G.H1 b = none → Hw b = none := fun b l e => by rw [lo b l]; exact Hw0_none l e
  refine ⟨⟨S.mod, C.kind, rfl, rfl, Nat.le_of_eq csz, fun _ _ _ e _ => nc' e, fun x hx => ?_, fun _ _ _ e => nc' e, fun _ => S.hd, Around.frames_deeper (A := G.A.in1) S.frames, .inr ⟨rfl, rfl⟩, fun b hb => noA hb, fun b o e => ?_, Nat.le_trans S.bsz (Nat.le_of_eq csz.symm), fun b o _ hb => noA hb, fun b hb => noA hb, ?_, fun b hb => ?_⟩,
    rfl, W.bare, Un.kept fun b o e => (cutH_of e).2, ⟨m, hN, fun i x v h1 h2 _ => ?_⟩, fun _ _ e => nc' e, hF, fun _ _ e => nc' e, fun p hp => absurd (show p ∈ ([] : List (Addr × Obj)) ++ [] from hp) (by simp), ok, hl⟩
  · rcases hx with hx | hx
    · exact absurd hx (C.none x).1
    · exact absurd hx (C.none x).2
  · have l := Nat.lt_of_lt_of_le (Heap.lt_size e) S.bsz
    exact ⟨cu b o l (W.bs b o e), hlow b l (S.bnt b o e)⟩
  · exact funs_slots W.funs fun b hb o e => ⟨o.slots, cu b o (S.stk b hb).1 e⟩
  · exact hlow b (S.stk b hb).1 (S.stk b hb).2
  · obtain ⟨u, r, e, k⟩ := hσ i x v h1 h2
    exact ⟨u, r, .inl ⟨k, e⟩⟩
theorem stp_of {pins : List (Addr × Obj)} {H : Hp} (S : GStat G mg) (W : Wk G own sn) (I : Inv (cxG G mg N qual scope f cd Hw sn) pins σ H s1) (hw : ∀ b, ¬ OwnF G.x sn.heap G.F b → Hw b = Hw0 G sn b) (lo : ∀ b, b < G.F → Hw b = Hw0 G sn b)
    (there : ∀ b, OwnF G.x sn.heap G.F b → b ≠ G.F → ∃ o, s1.heap.get? b = some o) : Stp G sn s1 := by
  have frz : ∀ b o u, Hw b = some (.frz o u) → s1.heap.get? b = some o := fun b o u e => (I.hok b _ (I.base.frzs b o u e)).1
  have noA : ∀ b : Addr, b ∉ (cxG G mg N qual scope f cd Hw sn).ex := fun b z => absurd (show b ∈ ([] : List Addr) from z) (by simp)
  have keep : ∀ b o, sn.heap.get? b = some o → ¬ OwnF G.x sn.heap G.F b → b ∉ frs G.stk → s1.heap.get? b = some o := fun b o e no nf => by
    by_cases lt : b < G.F
    · cases q : Hw b with
      | none => exact I.base.keep b o (by show (cutH sn.heap G.F).get? b = _; rw [cutH_get lt]; exact e) q nf (noA b)
      | some u =>
        have q' := q
        rw [hw b no] at q'
        obtain ⟨xs, o', rfl, _, e2⟩ := Hw0_lt lt q'
        rw [e] at e2
        cases e2
        exact frz b o _ q
    · have ne : b ≠ G.F := fun z => no (.inl z)
      have gt : G.F < b := Nat.lt_of_le_of_ne (Nat.le_of_not_lt lt) (Ne.symm ne)
      have q := hw b no
      rw [Hw0_up gt e] at q
      exact frz b o _ q
  have slot : ∀ b o, sn.heap.get? b = some o → b ∈ frs G.stk → ∃ sl, s1.heap.get? b = some { o with slots := sl } := fun b o e hb => by
    obtain ⟨lt, hn⟩ := S.stk b hb
    exact I.base.slot b o (by show (cutH sn.heap G.F).get? b = _; rw [cutH_get lt]; exact e) (by show Hw b = none; rw [lo b lt]; exact Hw0_none lt hn) hb (noA b)
  refine ⟨I.os, I.bare, keep, slot, fun b o e => ?_⟩
  by_cases q : OwnF G.x sn.heap G.F b
  · by_cases ne : b = G.F
    · obtain ⟨m, ⟨o', _, _, e', _⟩, _⟩ := I.loc
      exact ⟨o', by rw [ne]; exact e'⟩
    · exact there b q ne
  · by_cases hb : b ∈ frs G.stk
    · obtain ⟨sl, e1⟩ := slot b o e hb
      exact ⟨_, e1⟩
    · exact ⟨o, keep b o e q hb⟩
end
/-- what a generator def promises: n items, the i-th one as «it» says, read in the tuples of the heap of its making -/
abbrev SpI := List V → Hp → Nat → (Nat → V → Prop) → Prop
def GMk (P : Program) (w : World) (K : PySem.W.Frag) (base : Heap) (A : Around) (outer : List Env) (s : Shared) (H : Hp) (n : Nat) (it : Nat → V → Prop) (u : Value) (s' : Shared) : Prop :=
  ∃ (G : Gs) (fp : List Addr), u = .ref G.a ∧ (G.P = P ∧ G.w = w ∧ G.K = K ∧ G.base = base ∧ G.A = A ∧ G.stk = outer ∧ G.H1 = H ∧ G.n = n ∧ G.it = it) ∧ Slp G 0 fp s' ∧ s'.os = s.os ∧ AllBare s'.gens ∧ (∀ b o, s.heap.get? b = some o → s'.heap.get? b = some o) ∧ (∀ b ∈ fp, s.heap.objs.size ≤ b) ∧
    (∀ h : Heap, h.get? G.a = some G.go → h.IsGen G.a G.g) ∧ A.handled = none ∧ A.depth < recursionLimit
structure GFnG (P : Program) (w : World) (K : PySem.W.Frag) (mg : Str → Option Value) (base : Heap) (k : Nat) (f : Addr) (fd : FuncData) (ps : List Str) (sp : SpI) : Prop where
  len : ∀ vs H n it, sp vs H n it → vs.length = ps.length
  run : ∀ (A : Around) (outer : List Env) (s : Shared) (H : Hp) (args : Args) (us : List Value) (vs : List V) (n : Nat) (it : Nat → V → Prop), Room k A → Env0 P w K mg base A outer s H → BindsTo s fd args (ps.zip us) → Vals vs us → sp vs H n it →
    codeAny (model P w) A (.call (.ref f) args) (fun r s' => match r with | .ok (.ret u) => GMk P w K base A outer s H n it u s' | _ => False) s
/-- a generator def, by its body. x: the one name under which it keeps a list of its own -/
theorem gfnG_of {P : Program} {w : World} {K : PySem.W.Frag} {mg : Str → Option Value} {base : Heap} {k : Nat} {f : Addr} {name qual : Str} {params : Arguments} {body : List Stmt} {scope : Scope} {dV kV doc pm cdv ct oc : Value} {an od : Option Addr}
    {osl : Array (Option Value)} {N ps : List Str} {sp : SpI} (x : Str) (lk : K.lookup f = some ⟨oc, od, .func (PySem.W.fnOf name qual params body scope dV kV doc pm an cdv ct), osl⟩) (hcd : PySem.W.codeIn K cdv qual = true) (C : NoCells scope) (hpre : N.take ps.length = ps) (hnd : N.Nodup)
    (hpar : ∀ y ∈ ps, scope.names.lookup y = some .local) (hx : x ∉ ps) (len : ∀ vs H n it, sp vs H n it → vs.length = ps.length)
    (hbody : ∀ (G : Gs) (vs : List V) (own : List (Addr × Obj)) (sn : Shared), G.P = P → G.w = w → G.K = K → G.base = base → G.x = x → GStat G mg → Room k (G.A.in1.deeper (envOfC qual scope G.F f cdv)) → sp vs G.H1 G.n G.it → Wk G own sn → (G.a, G.go) ∈ own →
      (∀ b, ¬ (OwnF x sn.heap G.F b ∧ b ≠ G.F)) → Inv (cxG G mg N qual scope f cdv (Hw0 G sn) sn) [] (L2.start N vs) (Hw0 G sn) sn →
      Seg (model G.P G.w) G.A.in1 (GRe G) (GYp G) G.n sn (.func body (envOfC qual scope G.F f cdv)) ((model G.P G.w).den (.func body (envOfC qual scope G.F f cdv))) [] sn) :
    GFnG P w K mg base (k + 2) f (PySem.W.fnOf name qual params body scope dV kV doc pm an cdv ct) ps sp := by
  refine ⟨len, fun A outer s H args us vs n it hr e0 hb r hsp => ?_⟩
  have hl := len _ _ _ _ hsp
  have KX : K.In s.heap := e0.mod.kin.keeps fun b o e => (e0.bs b o e).1
  have lim : s.heap.NoLimit := e0.mod.nolimit.keeps fun b o e => (e0.bs b o e).1
  have hkind : ∀ y ∈ ps.zip us, scope.names.lookup y.1 = some .local ∨ (scope.names.lookup y.1 = some .cell ∧ ((cellsFrom (s.heap.objs.size + 1) scope.names []).lookup y.1).isSome = true) := fun ⟨n, v⟩ hy => .inl (hpar n (List.of_mem_zip hy).1)
  refine codeAny_call_generator hr.depth (KX _ _ lk) rfl C.co C.gen rfl (PySem.W.codeRec_of KX hcd) (hb _ _ _ _ ?_)
  refine wpAny_newFunctionEnv_cells C.kind hkind fun env he s1 xx => ?_
  subst he
  have lim1 : s1.heap.NoLimit := lim.keeps xx.toInCall.keep
  refine ⟨lim1, ?_⟩
  obtain ⟨h1, tk, es1, hk1⟩ := xx.done
  have os1 : s1.os = s.os := by rw [es1]
  have gen1 : s1.gens = s.gens := by rw [es1]
  have lt1 : s.heap.objs.size < s1.heap.objs.size := xx.toInCall.ns.lt
  have kp1 : ∀ b o, s.heap.get? b = some o → s1.heap.get? b = some o := xx.toInCall.keep
  have main : ∀ (go : Obj) (nm qn : Value) (tk2 : Nat), go.cls = .type "generator" → go.data = .fields #[.int s1.gens.size 0, nm, qn] → go.slots = #[] → (∀ h : Heap, (h.push go).get? h.objs.size = some go) →
      GMk P w K base A outer s H n it (.ref s1.heap.objs.size) { s1 with gens := s1.gens.push (.fresh (.func body (envOfC qual scope s.heap.objs.size f cdv))), toks := tk2, heap := s1.heap.push go } := by
    intro go nm qn tk2 hgc hgd0 hgs hgp
    have hns := xx.toInCall.ns
    obtain ⟨fo, fes, fep, hfo, hfd, hfr⟩ := id hns
    have hfo2 : (s1.heap.push go).get? s.heap.objs.size = some fo := Heap.get?_push_of_some _ hfo
    have ng : ∀ v, go.data ≠ .cell v := fun v q => by rw [hgd0] at q; cases q
    have nF : ∀ v, fo.data ≠ .cell v := fun v q => by rw [hfd] at q; cases q
    have ownE : ∀ (h : Heap) (b : Addr), h.get? s.heap.objs.size = some fo → OwnF x h s.heap.objs.size b → b = s.heap.objs.size := fun h b e q => by
      rcases q with q | ⟨m, hm, hmx⟩
      · exact q
      · have hn2 : h.Ns s.heap.objs.size _ := ⟨fo, fes, fep, e, hfd, hfr⟩
        have := hn2.agree hm x
        rw [hmx, bindL_out fun v hv => hx (List.of_mem_zip hv).1] at this
        cases this
    refine ⟨⟨P, w, K, base, A, outer, s.heap.objs.size, s1.heap.objs.size, s1.gens.size, go, x, H, n, it⟩, [s1.heap.objs.size, s.heap.objs.size], rfl, ⟨rfl, rfl, rfl, rfl, rfl, rfl, rfl, rfl, rfl⟩,
      ⟨_, [(s1.heap.objs.size, go), (s.heap.objs.size, fo)], Array.getElem?_push_size .., rfl, List.mem_cons_self, fun p hp => ?_, fun b hb => ?_, .inl rfl, fun sn W => ⟨rfl, ?_⟩⟩, os1, ?_, fun b o e => Heap.get?_push_of_some _ (kp1 b o e), fun b hb => ?_, fun h e => ⟨go, nm, qn, e, hgc, hgd0, hgs⟩, hr.hd, hr.depth⟩
    · rcases List.mem_cons.mp hp with z | z
      · rw [z]; exact ⟨hgp _, ng⟩
      · rw [List.mem_singleton.mp z]
        exact ⟨hfo2, nF⟩
    · rw [ownE _ b hfo2 hb]
      exact List.mem_cons_of_mem _ List.mem_cons_self
    · have S : GStat ⟨P, w, K, base, A, outer, s.heap.objs.size, s1.heap.objs.size, s1.gens.size, go, x, H, n, it⟩ mg := by
        refine ⟨e0.mod, e0.bsz, fun b o e => (e0.bs b o e).2, fun b hb => ⟨?_, e0.frf b hb⟩, e0.frames, hr.hd, fun b xs r => ?_, lt1, ng⟩
        · obtain ⟨_, o, ho, _⟩ := e0.funs.mem hb
          exact Heap.lt_size ho
        · exact (r.ok e0.hok).lt
      have eF : sn.heap.get? s.heap.objs.size = some fo := W.own (s.heap.objs.size, fo) (List.mem_cons_of_mem _ List.mem_cons_self)
      refine hbody ⟨P, w, K, base, A, outer, s.heap.objs.size, s1.heap.objs.size, s1.gens.size, go, x, H, n, it⟩ vs [(s1.heap.objs.size, go), (s.heap.objs.size, fo)] sn rfl rfl rfl rfl rfl S ((hr.in1).deeper _) hsp W List.mem_cons_self (fun b z => z.2 (ownE _ b eF z.1)) ?_
      refine inv_wake S C W (fun _ _ => rfl) Hw0_F (Hw0_ok W) (m := bindL (envOfC qual scope s.heap.objs.size f cdv).kindOf (ps.zip us) fun _ => none) ⟨fo, fes, fep, eF, hfd, hfr⟩ ?_ fun i y v h1 h2 => ?_
      · unfold L2.start
        have := congrArg List.length hpre
        rw [List.length_take] at this
        rw [List.length_append, List.length_map, List.length_replicate]
        omega
      · have hi : i < vs.length := by
          unfold L2.start at h2
          by_cases hi : i < vs.length
          · exact hi
          · rw [List.getElem?_append_right (by simpa using hi), List.getElem?_replicate] at h2
            split at h2 <;> cases h2
        have ha : vs[i]? = some v := by
          unfold L2.start at h2
          rw [List.getElem?_append_left (by simpa using hi), List.getElem?_map] at h2
          cases e : vs[i]? with
          | none => rw [e] at h2; cases h2
          | some a => rw [e] at h2; cases h2; rfl
        obtain ⟨u, hu, rv⟩ := r.get ha
        have hp : ps[i]? = some y := by
          rw [← hpre, List.getElem?_take_of_lt (by omega)]; exact h1
        have ndP : ps.Nodup := by rw [← hpre]; exact hnd.sublist (List.take_sublist _ _)
        have k := hpar y (List.mem_of_getElem? hp)
        exact ⟨u, rv, bindL_get ndP hp hu k, k⟩
    · exact AllBare.push (by rw [gen1]; exact e0.bare) rfl
    · rcases List.mem_cons.mp hb with z | z
      · rw [z]; exact Nat.le_of_lt lt1
      · rw [List.mem_singleton.mp z]; exact Nat.le_refl _
  exact main _ _ _ _ rfl rfl rfl fun h => Heap.get?_push_size _ rfl
section
variable {X : Cx} {k : Nat} {f : Addr} {fd : FuncData} {ps : List Str} {sp : SpI} {x : Str} {p pos' : Pos} {e : Expr} {es : List Expr} {t : TA}
def iGen (sp : SpI) (t : TA) : TI := fun σ H R => t σ H fun vs H1 => ∃ n it, sp vs H1 n it ∧ ∀ G : Gs, G.H1 = H1 → G.n = n → G.it = it → R (Itg G) H1
/-- f(e, ..) of a generator def, walked -/
theorem pig_call (F : GFnG X.prog X.w X.K X.mg X.base k f fd ps sp) (hr : Room k X.A) (hg : Gl X x) (hm : X.mg x = some (.ref f)) (hk : PySem.W.keepIn X.K (.ref f) = true) (hb : Binds X.K fd ps [])
    (ha : PA X (e :: es) t) (hdb : (x == ("__debug__" : Str)) = false := by decide) (he : starEach (e :: es) X.env = (false, eval e X.env) :: starEach es X.env := by rfl) (hpl : (backTo pos' (starEach es X.env)).any (·.1) = false := by rfl) :
    PIG X (.Call (.Name x p) (e :: es) [] pos') (iGen sp t) := by
  refine ⟨fun pins s σ H R I h => ?_⟩
  refine wpAny_Call_Name_kw (ld_glob I hg hm ?_ hdb)
  refine PySem.W.callWith_K (h₀ := X.base) I.ok.mod.kin hk (thn (ha.run pos' pins s σ H _ I h) fun us s1 ⟨vs, H1, I1, r, n, it, hsp, q⟩ => ⟨I1.kIn, ?_⟩) he hpl
  have hl2 : us.length = ps.length := by rw [← r.length]; exact F.len _ _ _ _ hsp
  refine wpAny_call (codeAny_mono (F.run X.A X.stack s1 H1 ⟨us, []⟩ us vs n it hr I1.env0 (by have := hb s1 us I1.kIn (by rw [List.append_nil]; exact hl2); rw [List.append_nil] at this; exact this) r hsp) fun r s' hq => ?_)
  cases r with
  | error e => exact False.elim hq
  | ok fl =>
    cases fl with
    | next => exact False.elim hq
    | brk => exact False.elim hq
    | cont => exact False.elim hq
    | ret u =>
      obtain ⟨G, fp, rfl, ⟨e1, e2, e3, e4, e5, e6, e7, e8, e9⟩, st, hos, hba, kp, hfp, hgen, hh, hd⟩ := hq
      have O : GOk G X := ⟨e1.symm, e2.symm, e3.symm, e4.symm, e5.symm, e6.symm, by rw [e5]; exact hh, by rw [e5]; exact hd, hgen⟩
      have I2 : Inv X pins σ H1 s' := I1.call' (ch := []) hos (Un.kept kp) (I1.hok.kept kp) hba fun b z => by simp at z
      refine wpAny_pyIter_gen (st.gen O) ⟨G, fp, H1, rfl, O, I2, st, fun b hb => ?_, q G e7 e8 e9⟩
      exact I1.fpOk (hfp b hb) (I1.hok.fresh (hfp b hb))
end
end GenF
/-! sorted(set(xs)), xs a list of texts -/
namespace PKT
open PySem PySem.Spec PyProof.Rows L2 PySem.Froz
/-- the set at a: its texts l, in some order; it can be walked -/
structure TS (P : Program) (w : World) (h : Heap) (a : Addr) (l : List Str) : Prop where
  ex : ∃ D : SD, h.get? a = some (sObj "set" D) ∧ TxOk P w D l ∧ Ris D.2.2.place.toList ∧ (w.params.followText "set-order" = true ∨ D.2.2.led = true)
  nd : l.Nodup
theorem TS.at {P : Program} {w : World} {h h' : Heap} {a : Addr} {l : List Str} (R : TS P w h a l) (k : ∀ o, h.get? a = some o → h'.get? a = some o) : TS P w h' a l := by
  obtain ⟨⟨D, e, r⟩, nd⟩ := R
  exact ⟨⟨D, k _ e, r⟩, nd⟩
theorem TS.new {P : Program} {w : World} {h : Heap} {a : Addr} (e : h.get? a = some { cls := .type "set", dict := none, data := .set #[] 0 (.fresh 0 0 (!w.params.followText "set-order")) }) : TS P w h a [] := by
  refine ⟨⟨(#[], 0, .fresh 0 0 (!w.params.followText "set-order")), e, TxOk.nil rfl, List.Pairwise.nil, ?_⟩, List.nodup_nil⟩
  show _ ∨ (!w.params.followText "set-order") = true
  cases w.params.followText "set-order" with
  | false => exact .inr rfl
  | true => exact .inl rfl
theorem tail_ris {ep : Nat} {es : Array (Int × Value)} {t : SetTable} {d : Bool} (r : Ris t.place.toList) : Ris (tailTx ep es t d).2.2.place.toList := by
  unfold tailTx
  split
  · exact relayAll_ris _ _ _
  · exact r
theorem tail_led {ep : Nat} {es : Array (Int × Value)} {t : SetTable} {d : Bool} : (tailTx ep es t d).2.2.led = t.led := by
  unfold tailTx
  split
  · exact relayAll_led _ _ _
  · rfl
theorem addTx_ris {h : Int} {v : Value} {D : SD} (r : Ris D.2.2.place.toList) : Ris (addTx h v D).2.2.place.toList := by
  have r1 := layNew_ris D.2.2 D.1 h v r
  unfold addTx
  refine tail_ris ?_
  split <;> exact r1
theorem addTx_led {h : Int} {v : Value} {D : SD} : (addTx h v D).2.2.led = D.2.2.led := by
  have r1 := layNew_led D.2.2 D.1 h v
  unfold addTx
  rw [tail_led]
  split <;> exact r1
section
variable {P : Program} {w : World} {A : Around} {E : Value → Shared → Prop} {s : Shared} {a : Addr} {l : List Str}
/-- a text is put in -/
theorem add_hashed {k : Str} {tk : Tok} {Q : Bool → Shared → Prop} (R : TS P w s.heap a l) (room : l.length + 1 < scanBound)
    (hQ : ∀ b h', Heap.SameBut a s.heap h' → TS P w h' a (if k ∈ l then l else k :: l) → Q b { s with heap := h' }) : wpAny (model P w) A (setAddHashed a (.str k tk) (hashStr w k)) Q E s := by
  obtain ⟨⟨D, eo, tx, ri, le⟩, nd⟩ := R
  by_cases hk : k ∈ l
  · have q := hQ false s.heap (Heap.SameBut.refl a s.heap) (by rw [if_pos hk]; exact ⟨⟨D, eo, tx, ri, le⟩, nd⟩)
    obtain ⟨es, ep, t⟩ := D
    have bd : es.size < scanBound := by have e : es.size = l.length := tx.sz; omega
    obtain ⟨e0, me, pe⟩ := (tx.mem k).mp hk
    cases fi : List.findIdx? (fun e => (strKind P w).is k e.2) es.toList with
    | none => have c := List.findIdx?_eq_none_iff.mp fi e0 me; rw [pe] at c; cases c
    | some j =>
      unfold setAddHashed setAddHashedIn
      refine wpAny_holding (wpAny_bind (wpAny_setState_of eo (es := es) (ep := ep) (t := t) rfl tx.fit ?_)); dsimp only
      rw [byScan_of (knd := strKind P w) rfl bd tx.el]; simp only [↓reduceIte]
      unfold setAddByScan
      refine wpAny_bind (wpAny_bind (wpAny_rule (wpAny_bind (wpAny_setScan_of (knd := strKind P w) (k := k) (is_str k tk) eo (es := es) (ep := ep) (t := t) rfl tx.fit tx.el ?_)))); rw [fi]
      exact wpAny_pure (wpAny_pure q)
  · refine add_x (l := l) (D := D) (u := tk) eo tx hk room (hQ true _ (Heap.SameBut.update s.heap a _) ?_)
    rw [if_neg hk]
    exact ⟨⟨_, get_upd _ eo rfl, add_ok tk tx, addTx_ris ri, le.imp id fun z => by rw [addTx_led]; exact z⟩, List.nodup_cons.mpr ⟨hk, nd⟩⟩
end
theorem strs_get : ∀ {vs : List Value} {xs : List Str} {i : Nat} {v : Value}, StrsAre vs xs → vs[i]? = some v → ∃ k t, xs[i]? = some k ∧ v = .str k t
  | _, _, _, _, .nil, e => by simp at e
  | _, _, 0, _, .cons n t _, e => by simp at e; exact ⟨n, t, rfl, e.symm⟩
  | _, _, i + 1, _, .cons n t r, e => by
    obtain ⟨k, t', h1, h2⟩ := strs_get (i := i) r (by simpa using e)
    exact ⟨k, t', by simpa using h1, h2⟩
/-- what was met of the first i texts -/
def Met (xs : List Str) (i : Nat) (l : List Str) : Prop := l.length ≤ i ∧ ∀ x, x ∈ l ↔ x ∈ xs.take i
theorem Met.zero (xs : List Str) : Met xs 0 [] := ⟨Nat.le_refl _, fun x => by simp⟩
theorem Met.next {xs : List Str} {i : Nat} {l : List Str} {k : Str} (m : Met xs i l) (hk : xs[i]? = some k) : Met xs (i + 1) (if k ∈ l then l else k :: l) := by
  refine ⟨?_, fun x => ?_⟩
  · split
    · exact Nat.le_succ_of_le m.1
    · exact Nat.succ_le_succ m.1
  · rw [List.take_add_one, hk]
    show _ ↔ x ∈ xs.take i ++ [k]
    rw [List.mem_append, List.mem_singleton, ← m.2 x]
    by_cases q : k ∈ l
    · rw [if_pos q]
      exact ⟨.inl, fun z => z.elim id fun e => e ▸ q⟩
    · rw [if_neg q, List.mem_cons]
      exact Or.comm
section
variable {P : Program} {w : World} {A : Around} {I : Addr} {fp wr : List Addr} {G : Array GenState → Array GenState → Prop} {n : Nat} {Pv : Nat → Value → Prop} {St : Nat → Shared → Prop} {R : Result → Shared → Prop}
theorem update_txts (W : WalksS P w A.in1 I fp wr G n Pv St) (S : Addr) (hS : S ∉ fp) (xs : List Str) (hn : n = xs.length) (few : xs.length + 1 < scanBound) (hval : ∀ i v, Pv i v → ∃ k t, xs[i]? = some k ∧ v = .str k t) :
    ∀ (k i : Nat) (s : Shared) (l : List Str), n - i = k → i ≤ n → St i s → TS P w s.heap S l → Met xs i l → (∀ s' l', Moved (S :: wr) G s s' → TS P w s'.heap S l' → Met xs n l' → R (.ok (.ret .none)) s') →
      codeAny (model P w) A (.builtin "set.update.loop" ⟨[.ref S, .ref I], []⟩) R s := by
  have hw : S ∉ wr := fun z => hS (W.sub _ z)
  have sub : ∀ b ∈ wr, b ∈ S :: wr := fun b z => List.mem_cons_of_mem _ z
  intro k
  induction k with
  | zero =>
    intro i s l hk hi st R0 m hR
    obtain rfl : i = n := by omega
    refine codeAny_builtin F.entry_set_update_loop ?_; rw [Around.under_plainId F.plain_set_update_loop _]
    show wpAny _ A.in1 (pyNext (.ref I) >>= _) _ _ s
    refine wpAny_bind (W.done s _ _ st fun s' hm => ?_); show wpAny _ A.in1 (ret Value.none) _ _ s'
    exact wpAny_pure (hR s' l (hm.mono sub) (R0.at fun o e => hm.heap S o hw e) m)
  | succ k ih =>
    intro i s l hk hi st R0 m hR
    have lt : i < n := by omega
    refine codeAny_builtin F.entry_set_update_loop ?_; rw [Around.under_plainId F.plain_set_update_loop _]
    show wpAny _ A.in1 (pyNext (.ref I) >>= _) _ _ s
    refine wpAny_bind (W.item i s _ _ lt st fun v s' hP st' hm => ?_)
    obtain ⟨x, t, hx, rfl⟩ := hval i v hP
    show wpAny _ A.in1 (holding [Value.str x t] (setAdd S (.str x t)) >>= _) _ _ s'
    refine wpAny_bind (wpAny_holding ?_); unfold setAdd; refine wpAny_holding ?_
    refine wpAny_bind ((strKind P w).pyHash (k := x) (is_str x t) ?_)
    have R1 : TS P w s'.heap S l := R0.at fun o e => hm.heap S o hw e
    refine add_hashed (s := { s' with toks := s'.toks + 1 }) R1 (by have := m.1; omega) fun b h' sb R2 => ?_
    refine wpAny_pure ⟨plainId_quiet F.plain_set_update_loop _, ih (i + 1) _ _ (by omega) lt (W.frame _ s' _ _ st' (Nat.le_add_right _ _) fun c hc o e => ?_) R2 (m.next hx) fun s2 l2 hm2 R3 m2 => hR s2 l2 (Moved.trans W.gtrans ((hm.mono sub).then_heap (Nat.le_add_right _ _) fun c o hc e => ?_) hm2) R3 m2⟩
    · rw [sb.2 c (fun z : c = S => hS (z ▸ hc))]; exact e
    · rw [sb.2 c (fun z : c = S => hc (z ▸ List.mem_cons_self))]; exact e
end
abbrev setObj0 (w : World) : Obj := { cls := .type "set", dict := none, data := .set #[] 0 (.fresh 0 0 (!w.params.followText "set-order")) }
section
variable {P : Program} {w : World} {A : Around} {E : Value → Shared → Prop} {s : Shared}
set_option maxHeartbeats 3200000 in
/-- set(xs), xs a list of texts -/
theorem set_txts {b : Addr} {its : Array Value} (xs : List Str) {Q : Value → Shared → Prop} (hh : A.handled = none) (hl : s.heap.IsList b its) (hit : StrsAre its.toList xs) (few : xs.length + 1 < scanBound)
    (h : ∀ (h' : Heap) (tk : Nat) (l : List Str), TS P w h' s.heap.objs.size l → Met xs xs.length l → (∀ c o, s.heap.get? c = some o → h'.get? c = some o) → Q (.ref s.heap.objs.size) { s with heap := h', toks := tk }) :
    wpAny (model P w) A (call (.type "set") [.ref b]) Q E s := by
  have hn : its.size = xs.length := by have q := StrsAre.length hit; rw [Array.length_toList] at q; exact q
  have f0 := F.called_set.mro; have f1 := F.called_set.made; have f2 := F.called_set.sub; have f3 := F.called_set.notType; have f4 := F.called_set.canCreate; have f5 := F.typeCall_set_1 (.ref b)
  obtain ⟨c, tl, f0⟩ := f0
  refine wpAny_call (codeAny_of_tree ?_); show wpAny _ _ (callAny (.type "set") _) _ _ _
  refine wpAny_pure ⟨Code.quiet_builtin _ (by decide +kernel), codeAny_builtin F.entry_type_call ?_⟩; rw [Around.under_plain (weight_type_call_type "set" [.ref b] []) rfl]
  repeat (any_goals (first | assumption | wp_step))
  refine codeAny_mono (code_set_led1 (.ref b) (E := E) (Q₁ := fun obj z => obj = .ref s.heap.objs.size ∧ z = { s with heap := s.heap.push (setObj0 w) }) ⟨rfl, rfl⟩) fun r z hr => ?_
  cases r with
  | error _ => exact hr
  | ok fl =>
    cases fl with
    | ret obj =>
      obtain ⟨rfl, rfl⟩ := hr
      have e0 : (s.heap.push (setObj0 w)).get? s.heap.objs.size = some (setObj0 w) := Heap.get?_push_size _ rfl
      have ty : Shared.TypeIs { s with heap := s.heap.push (setObj0 w) } (.ref s.heap.objs.size) "set" := ⟨_, e0, rfl⟩
      have i1 := F.called_set.init.lookup; have i2 := F.called_set.init.bind (.ref s.heap.objs.size)
      repeat (any_goals (first | assumption | wp_step))
      refine codeAny_mono (codeAny_call_builtin (R := wants (fun r z => r = .none ∧ ∃ h' tk l, z = { s with heap := h', toks := tk } ∧ TS P w h' s.heap.objs.size l ∧ Met xs xs.length l ∧ (∀ c o, s.heap.get? c = some o → h'.get? c = some o)) E) F.called_set.init.plain F.entry_set_init (check_set_init_1 ty ?_)) fun r2 z2 hr2 => ?_
      · have hbS : b < s.heap.objs.size := let ⟨o, ho, _⟩ := hl; Heap.lt_size ho
        have hl1 : (s.heap.push (setObj0 w)).IsList b its := hl.push _
        obtain ⟨ol, hol, hcl, nl, hdl⟩ := hl
        obtain ⟨ocls, odict, odata, oslots⟩ := ol
        simp only at hcl hdl
        subst hcl; subst hdl
        have g1 : (s.heap.push (setObj0 w)).get? b = some { cls := .type "list", dict := odict, data := .seq its nl, slots := oslots } := Heap.get?_push_of_some _ hol
        have g2 := F.sub_list_set; have g3 := F.sub_list_frozenset; have g4 : (Value.type "list" == Value.type "dict") = false := by decide
        unfold Builtin.«set.__init__» noKeywords Builtin.Frozenset.updateFrom
        generalize hPI : pyIter = PI
        wp_walk
        subst hPI
        refine wpAny_pyIter_list hl1 (wpAny_bind (wpAny_runValue ?_))
        have hI : b ≠ (s.heap.push (setObj0 w)).objs.size := by rw [Heap.size_push]; exact Nat.ne_of_lt (Nat.lt_succ_of_lt hbS)
        have hS : s.heap.objs.size ∉ [(s.heap.push (setObj0 w)).objs.size, b] := by
          rw [Heap.size_push]; simp only [List.mem_cons, List.not_mem_nil, or_false, not_or]
          exact ⟨Nat.ne_of_lt (Nat.lt_succ_self _), Nat.ne_of_gt hbS⟩
        have val : ∀ (i : Nat) (v : Value), its[i]? = some v → ∃ k t, xs[i]? = some k ∧ v = .str k t := fun i v hv => by
          have q : its.toList[i]? = some v := by rw [Array.getElem?_toList]; exact hv
          exact strs_get hit q
        refine update_txts ((Walks.list (by simp [hh]) _ b hI its).toS) s.heap.objs.size hS xs hn few val (its.size - 0) 0 _ [] (by omega) (Nat.zero_le _) ⟨⟨_, Heap.get?_push_size _ rfl, rfl, rfl⟩, (hl1.push _)⟩ (TS.new (Heap.get?_push_of_some _ e0)) (Met.zero xs) fun s' l hm R1 m => ?_
        obtain ⟨h', gs, d', tk', os'⟩ := s'
        obtain rfl : gs = s.gens := hm.gens
        obtain rfl : d' = s.drawn := hm.drawn
        obtain rfl : os' = s.os := hm.os
        refine wpAny_pure ?_; show wpAny _ _ (ret Value.none) _ _ _
        rw [hn] at m
        refine wpAny_pure ⟨rfl, h', tk', l, rfl, R1, m, fun c o e => hm.heap c o (fun z => ?_) (Heap.get?_push_of_some _ (Heap.get?_push_of_some _ e))⟩
        have lt := Heap.lt_size e
        rcases List.mem_cons.mp z with z | z
        · exact absurd lt (by rw [z]; exact Nat.lt_irrefl _)
        · rw [List.mem_singleton.mp z, Heap.size_push] at lt
          exact absurd (Nat.lt_of_succ_lt lt) (Nat.lt_irrefl _)
      · cases r2 with
        | error _ => exact hr2
        | ok fl2 =>
          cases fl2 with
          | ret r =>
            obtain ⟨rfl, h', tk, l, rfl, R1, m, k⟩ := hr2
            repeat (any_goals (first | assumption | wp_step))
            exact h _ _ _ R1 m k
          | _ => exact hr2.elim
    | _ => exact hr.elim
end
end PKT
namespace PKT
open PySem PySem.Spec PyProof.Rows L2 PySem.Froz
theorem strs_of : ∀ {vs : List Value}, (∀ v ∈ vs, ∃ k t, v = Value.str k t) → ∃ xs, StrsAre vs xs
  | [], _ => ⟨[], .nil⟩
  | v :: r, h => by
    obtain ⟨k, t, rfl⟩ := h v List.mem_cons_self
    obtain ⟨xs, q⟩ := strs_of (vs := r) fun u hu => h u (List.mem_cons_of_mem _ hu)
    exact ⟨_, .cons k t q⟩
theorem perm_sub : ∀ {l ys : List Str}, l.Nodup → (∀ x ∈ l, x ∈ ys) → ys.length = l.length → ys.Perm l
  | [], ys, _, _, e => by rw [List.length_eq_zero_iff.mp e]
  | x :: r, ys, nd, h, e => by
    obtain ⟨n1, n2⟩ := List.nodup_cons.mp nd
    have hx := h x List.mem_cons_self
    refine (List.perm_cons_erase hx).trans ((perm_sub (ys := ys.erase x) n2 (fun y hy => ?_) ?_).cons x)
    · have ne : y ≠ x := fun z => n1 (z ▸ hy)
      exact (List.mem_erase_of_ne ne).mpr (h y (List.mem_cons_of_mem _ hy))
    · rw [List.length_erase_of_mem hx, e]; rfl
/-- the texts of a payload are the set's -/
theorem TxOk.perm_of {P : Program} {w : World} {D : SD} {l ys : List Str} {vs : List Value} (F : TxOk P w D l) (nd : l.Nodup) (pm : vs.Perm (D.1.toList.map (·.2))) (hs : StrsAre vs ys) : ys.Perm l := by
  have len : ys.length = l.length := by rw [← F.sz, ← StrsAre.length hs, pm.length_eq, List.length_map, Array.length_toList]
  have sub : ∀ x ∈ l, x ∈ ys := fun x hx => by
    obtain ⟨e, me, pe⟩ := (F.mem x).mp hx
    have mv : e.2 ∈ vs := pm.mem_iff.mpr (List.mem_map.mpr ⟨e, me, rfl⟩)
    obtain ⟨i, hi⟩ := List.getElem?_of_mem mv
    obtain ⟨k, t, hk, ev⟩ := strs_get hs hi
    rw [ev] at pe
    have : x = k := (strKind P w).inj (.str k t) x k pe (is_str k t)
    rw [this]
    exact List.mem_of_getElem? hk
  exact perm_sub nd sub len
section
variable {P : Program} {w : World} {A : Around} {E : Value → Shared → Prop} {s : Shared} {a : Addr} {l : List Str}
set_option maxHeartbeats 3200000 in
theorem sorted_txts {Q : Value → Shared → Prop} (R : TS P w s.heap a l) (hh : A.handled = none) (few : l.length < 64)
    (hQ : ∀ s' p (out : Array Value) (c : Nat) (ys : List Str), (∀ b o, s.heap.get? b = some o → s'.heap.get? b = some o) → s'.gens = s.gens → s'.os = s.os → s.heap.objs.size ≤ p → s'.heap.get? p = some (seqObj "list" out c) → StrsAre out.toList ys → ys.Perm l → sortedS ys = true → Q (.ref p) s') :
    wpAny (model P w) A (call (.builtin "sorted") [.ref a]) Q E s := by
  obtain ⟨⟨D, eo, tx, ri, le⟩, nd⟩ := R
  refine Calls.call_function_entry kind_sorted plain_sorted entry_sorted (args_sorted1 _) ?_
  unfold Builtin.«sorted»; refine wpAny_bind (m := checkCount "sorted" 1 1 _) (wpAny_pure ?_)
  have sz : D.1.size < scanBound := by have := tx.sz; unfold scanBound; omega
  refine wpAny_bind (collect_set (A := A.in1) hh ⟨_, eo, rfl, rfl⟩ tx.fit sz ri le fun s1 vs k1 hz g1 o1 pm => ?_)
  have hv : vs.length = l.length := by rw [pm.length_eq, List.length_map, Array.length_toList]; exact tx.sz
  obtain ⟨ys, hs⟩ := strs_of (vs := vs) fun v hv => by
    obtain ⟨e, me, q⟩ := List.mem_map.mp (pm.mem_iff.mp hv)
    obtain ⟨⟨k, hk, _⟩, _⟩ := tx.el e me
    obtain ⟨t, q2⟩ := Value.isStrOf_shape (x := k) (v := e.2) hk
    exact ⟨k, t, by rw [← q, q2]⟩
  have py : ys.Perm l := TxOk.perm_of tx nd pm hs
  refine wpAny_bind (wpAny_newList ?_ (by rw [hv, sizeLine_eq]; omega))
  have e2 : (s1.heap.push (seqObj "list" vs.toArray 0)).get? s1.heap.objs.size = some (seqObj "list" vs.toArray 0) := Heap.get?_push_size _ rfl
  refine wpAny_bind (wpAny_holding (wpAny_call_entry slot_list_sort ⟨_, e2, rfl⟩ entry_list_sort (list_sort_treeK strKind_oneLt e2 hs.keysOf (fun _ _ _ e => keyKind_strs (by rw [← e]; exact hs)) (by rw [hv]; exact few) fun st hp hso => ⟨_, rfl, ?_⟩) (args_list_sort _)))
  obtain ⟨zs, z1, z2, z3⟩ := sorted_out_str hs hp hso
  obtain ⟨c, hc⟩ := sortedHeap_at (vs := vs) (out := (arrOf st).map (·.2)) e2
  refine wpAny_pure ⟨_, rfl, hQ _ s1.heap.objs.size _ c zs (fun b o e => ?_) g1 o1 hz hc z1 (z2.trans py) z3⟩
  have q := k1 b o e
  have lt := Heap.lt_size q
  exact (sortedHeap_old (Nat.ne_of_lt lt) (by rw [Heap.size_push]; exact Nat.lt_succ_of_lt lt)).trans (Heap.get?_push_of_some _ q)
end
end PKT
namespace PKT
open PySem PySem.Spec PyProof.Rows L2 PySem.Froz
/-- a set of texts -/
def SetX (P : Program) (w : World) (a : Addr) (l : List Str) : HO := .ext fun h => TS P w h a l
theorem setX_ok {P : Program} {w : World} {H : Hp} {h : Heap} {a : Addr} {l : List Str} (R : TS P w h a l) : ObjOk P w H h a (SetX P w a l) := by
  obtain ⟨⟨D, e, r⟩, nd⟩ := R
  exact ⟨⟨⟨D, e, r⟩, nd⟩, ⟨_, e⟩, fun h1 h2 R1 k => R1.at k⟩
def rSetS (K : PySem.W.Frag) (P : Program) (w : World) : List V → Hp → VK → Prop := fun vs H Q => ∃ (b : Addr) (xs : List Str), vs = [.ref b] ∧ SqL K H b (xs.map V.str) ∧ xs.length < 64 ∧
  ∀ a l, H a = none → Met xs xs.length l → l.Nodup → Q (.ref a) (upd H a (SetX P w a l))
theorem vals_strs : ∀ {xs : List Str} {vs : List Value}, StrsAre vs xs → Vals (xs.map V.str) vs
  | _, _, .nil => .nil
  | _, _, .cons k t r => .cons ⟨t, rfl⟩ (vals_strs r)
theorem strs_vals : ∀ {xs : List Str} {vs : List Value}, Vals (xs.map V.str) vs → StrsAre vs xs
  | [], _, .nil => .nil
  | x :: r, _, .cons h t => by obtain ⟨k, rfl⟩ := h; exact .cons x k (strs_vals t)
theorem one_ref {b : Addr} {us : List Value} (r : Vals [.ref b] us) : us = [.ref b] := by
  cases r with
  | cons h t => cases t; cases h; rfl
theorem cr_setS {X : Cx} (hc : X.calm = true) : CallR X (.type "set") (rSetS X.K X.prog X.w) := by
  intro pins s σ H vs us Q I r h
  obtain ⟨b, xs, rfl, hl, few, q⟩ := h
  rw [one_ref r]
  obtain ⟨its, rv, pl, _⟩ := I.list hl
  refine set_txts (P := X.prog) (w := X.w) xs (I.ok.hd hc) pl.isList (by simpa using strs_vals rv) (by unfold scanBound; omega) fun h' tk l R m k => ?_
  exact ⟨.ref s.heap.objs.size, _, I.laid (t' := tk) k (Nat.le_refl _) (setX_ok R), rfl, q _ l (I.hok.fresh (Nat.le_refl _)) m R.nd⟩
def rSortX (P : Program) (w : World) : List V → Hp → VK → Prop := fun vs H Q => ∃ (a : Addr) (l : List Str), vs = [.ref a] ∧ H a = some (SetX P w a l) ∧ l.length < 64 ∧
  ∀ zs p, zs.Perm l → sortedS zs = true → H p = none → Q (.ref p) (upd H p (.lst (zs.map V.str)))
theorem cr_sortX {X : Cx} (hc : X.calm = true) : CallR X (.builtin "sorted") (rSortX X.prog X.w) := by
  intro pins s σ H vs us Q I r h
  obtain ⟨a, l, rfl, ha, few, q⟩ := h
  rw [one_ref r]
  have R : TS X.prog X.w s.heap a l := (I.hok a _ ha).1
  refine sorted_txts R (I.ok.hd hc) few fun s' p out c ys k g o hp hg hy pm so => ?_
  have hn : H p = none := I.hok.fresh hp
  have hlen : (ys.map V.str).length ≤ sizeLine := by rw [List.length_map, pm.length_eq, sizeLine_eq]; omega
  have J : Inv X pins σ (upd H p (.lst (ys.map V.str))) { s with heap := s'.heap, gens := s'.gens, drawn := s'.drawn, toks := s'.toks } :=
    I.call (ch := []) (Un.laid k hp hn) (I.hok.laid k hp ⟨hlen, out.toList, c, vals_strs hy, hg⟩) (by rw [g]; exact I.bare) fun _ z => nomatch z
  have e : s' = { s with heap := s'.heap, gens := s'.gens, drawn := s'.drawn, toks := s'.toks } := by
    cases s'; cases s; cases o; rfl
  rw [e]
  exact ⟨.ref p, _, J, rfl, q ys p pm so hn⟩
end PKT
namespace PK
open PySem L2
/-- what len(xs) asks, by its name (within comprehensions) -/
def rLenS (K : PySem.W.Frag) : List V → Hp → VK → Prop := fun xs H Q => ∃ p ys, xs = [V.ref p] ∧ (SqL K H p ys ∨ SqT K H p ys) ∧ Q (.int ys.length) H
theorem call_lenS {X : Cx} : CallR X (.builtin "len") (rLenS X.K) := call_len_seq
end PK
/-! the forms one uses -/
namespace GenF
open PySem PySem.Spec PyProof.Rows GenW L2
theorem walk_gen {G : Gs} : Walk (Itg G) G.n (fun H => TK G.H1 H) (fun i H x H' => H' = H ∧ G.it i x) :=
  ⟨fun i _ hi q => ⟨hi, q⟩, fun _ q => ⟨rfl, q⟩, fun _ _ _ _ _ _ y => y⟩
theorem walk_genE {G : Gs} {H1 : Hp} {n : Nat} {it : Nat → V → Prop} (e1 : G.H1 = H1) (e2 : G.n = n) (e3 : G.it = it) : Walk (Itg G) n (fun H => TK H1 H) (fun i H x H' => H' = H ∧ it i x) := by
  subst e1 e2 e3
  exact walk_gen
/-- a generator def that may be called by its name -/
structure CalG (P : Program) (w : World) (K : PySem.W.Frag) (mg : Str → Option Value) (base : Heap) (k : Nat) (x : Str) (sp : SpI) : Prop where
  ex : ∃ (f : Addr) (fd : FuncData) (ps : List Str), GFnG P w K mg base k f fd ps sp ∧ mg x = some (.ref f) ∧ PySem.W.keepIn K (.ref f) = true ∧ Binds K fd ps []
theorem GFnG.mono {P : Program} {w : World} {K : PySem.W.Frag} {mg : Str → Option Value} {base : Heap} {j k : Nat} {f : Addr} {fd : FuncData} {ps : List Str} {sp : SpI} (F : GFnG P w K mg base j f fd ps sp) (h : j ≤ k) : GFnG P w K mg base k f fd ps sp :=
  ⟨F.len, fun A outer s H args us vs n it hr => F.run A outer s H args us vs n it (hr.mono h)⟩
section
variable {X : Cx}
theorem pig_c {j k : Nat} {x : Str} {sp : SpI} {p pos' : Pos} {e : Expr} {es : List Expr} {t : TA} (c : CalG X.prog X.w X.K X.mg X.base k x sp) (hr : Room j X.A) (hk : k ≤ j) (hg : Gl X x) (ha : PA X (e :: es) t) (hdb : (x == ("__debug__" : Str)) = false := by decide)
    (he : starEach (e :: es) X.env = (false, eval e X.env) :: starEach es X.env := by rfl) (hpl : (backTo pos' (starEach es X.env)).any (·.1) = false := by rfl) : PIG X (.Call (.Name x p) (e :: es) [] pos') (iGen sp t) := by
  obtain ⟨f, fd, ps, F, m, kp, b⟩ := c
  exact pig_call (F.mono hk) hr hg m kp b ha hdb he hpl
theorem PS.nox {st : Stmt} {t : TS} (h : PS X.nox st t) : PS X st t := ⟨fun pins s σ H D I hw =>
  wpAny_mono (h.run pins s σ H D (I.wish _) hw) (fun _ _ q => q.unwish) fun _ _ z => False.elim z⟩
end
end GenF
/-! a text times a number -/
namespace PKR
open PySem PySem.Spec PyProof.Rows L2
def repS (x : Str) (n : Nat) : Str := ⟨(List.replicate n x.cps).foldl (· ++ ·) #[]⟩
theorem fold_len : ∀ (n : Nat) (x a : Array Nat), ((List.replicate n x).foldl (· ++ ·) a).toList = a.toList ++ (List.replicate n x.toList).flatten
  | 0, x, a => by simp
  | n + 1, x, a => by
    rw [List.replicate_succ, List.foldl_cons, fold_len n x (a ++ x), List.replicate_succ, List.flatten_cons, Array.toList_append, List.append_assoc]
theorem repS_list (x : Str) (n : Nat) : (repS x n).cps.toList = (List.replicate n x.cps.toList).flatten := by
  unfold repS
  rw [fold_len]
  simp
theorem repS_one (x : Str) : repS x 1 = x := by
  refine Str.ext' (Array.toList_inj.mp ?_)
  rw [repS_list]
  simp
theorem repS_zero (x : Str) : repS x 0 = Str.empty := rfl
section
variable {X : Cx}
theorem op_repS : OpR X (binaryOp .Mult) (fun x y H Q => ∃ i n, x = .str i ∧ y = .int n ∧ 0 ≤ n ∧ n ≤ 10000 ∧ i.length ≤ 100 ∧ Q (.str (repS i n.toNat)) H) := by
  intro pins s σ H x y v u Q I rx ry h
  obtain ⟨i, n, rfl, rfl, h0, h1, hl, q⟩ := h
  obtain ⟨t, rfl⟩ := rx
  obtain ⟨t', rfl⟩ := ry
  have hm : i.length * n.toNat ≤ 100 * 10000 := Nat.mul_le_mul hl (by omega)
  refine PySem.P.mul_str ?_ (fun h2 _ => ?_) (fun h2 _ => ?_) ?_
  · rw [decide_eq_false (by omega), decide_eq_false (by omega)]; rfl
  · have : (9223372036854775807 : Int) / 10000 ≤ (2 ^ 63 - 1) / n := by
      have e : (2 : Int) ^ 63 - 1 = 9223372036854775807 := by decide
      rw [e]
      exact (Int.le_ediv_iff_mul_le (by omega)).mpr (Int.le_trans (Int.mul_le_mul_of_nonneg_left h1 (by decide)) (by decide))
    have : (9223372036854775807 : Int) / 10000 = 922337203685477 := by decide
    omega
  · exact decide_eq_false (by rw [sizeLine_eq]; omega)
  · by_cases c1 : n < 1
    · rw [if_pos c1]
      have e0 : n.toNat = 0 := by omega
      rw [e0] at q
      exact ⟨by decide, ⟨.str _, H, I.tok _, ⟨_, rfl⟩, q⟩⟩
    rw [if_neg c1]
    by_cases c2 : (n == 1 || i.length == 0) = true
    · rw [if_pos c2]
      have e : repS i n.toNat = i := by
        rcases Bool.or_eq_true_iff.mp c2 with h | h
        · rw [show n.toNat = 1 by have := beq_iff_eq.mp h; omega]; exact repS_one i
        · have hz : i.cps.toList = [] := List.length_eq_zero_iff.mp (by have := beq_iff_eq.mp h; show i.cps.toList.length = 0; rw [Array.length_toList]; exact this)
          refine Str.ext' (Array.toList_inj.mp ?_)
          rw [repS_list, hz]
          simp
      rw [e] at q
      exact ⟨.str i, H, I, ⟨_, rfl⟩, q⟩
    · rw [if_neg c2]
      have lr : (repS i n.toNat).length ≤ sizeLine := by
        have e : (repS i n.toNat).length = (repS i n.toNat).cps.toList.length := by rw [Array.length_toList]; rfl
        rw [e, repS_list, List.length_flatten, List.map_replicate, List.sum_replicate_nat, Array.length_toList, sizeLine_eq]
        have : i.cps.size = i.length := rfl
        rw [this, Nat.mul_comm]; omega
      exact ⟨lr, ⟨.str _, H, I.tok _, ⟨_, rfl⟩, q⟩⟩
end
end PKR
namespace PKE
open PySem L2
/-! == and != of data of any depth that there is room for -/
section
variable {X : Cx}
def rEqN (K : PySem.W.Frag) (n : Nat) : R2 := fun x y H Q => ∃ d e, Dp K H x d ∧ Dp K H y e ∧ d.canLay0 = true ∧ e.canLay0 = true ∧ (d.depth ≤ n ∨ e.depth ≤ n) ∧ Q (.bl (PyData.eqv d e)) H
theorem op_eqN {n : Nat} (hu : X.A.units + n < cLine) : OpR X (compareOp .Eq) (rEqN X.K n) := by
  intro pins s σ H x y v u Q I rx ry h
  obtain ⟨d, e, hd, he, sd, se, hn, q⟩ := h
  obtain ⟨as, r1⟩ := Dp.reads I d x v hd rx
  obtain ⟨bs, r2⟩ := Dp.reads I e y u he ry
  refine SeqAt.compareEq_reads r1 r2 sd se ?_ ⟨.bl _, H, I, rfl, q⟩
  rcases hn with h | h
  · exact Nat.lt_of_le_of_lt (Nat.add_le_add_left (Nat.le_trans (Nat.min_le_left _ _) h) _) hu
  · exact Nat.lt_of_le_of_lt (Nat.add_le_add_left (Nat.le_trans (Nat.min_le_right _ _) h) _) hu
end
end PKE
namespace PK
open PySem L2
def topS (i : Nat) : Stmt := PySem.Challenge.pw_passproven_k03_written_terms.main.body.getD i (.Pass ⟨0, 0, 0, 0⟩)
/-- xs[j] of a name -/
theorem vIx {K : PySem.W.Frag} {σ : L2.St} {H : Hp} {Q : VK} {i : Nat} {p : Addr} {xs : List V} {j : Int} {v : V} (h : σ[i]? = some (some (.ref p))) (hl : H p = some (.lst xs)) (ha : atI xs j = some v) (q : Q v H) :
    tOp (rIxL K) (tVar i) (tC (.int j)) σ H Q := ⟨_, h, p, xs, j, v, rfl, rfl, SqL.of hl, ha, q⟩
structure Txt (K : PySem.W.Frag) (mg : Str → Option Value) : Prop where
  z_len : mg "len" = none
  z_int : mg "int" = none
  z_range : mg "range" = none
  z_min : mg "min" = none
  z_str : mg "str" = none
  z_tuple : mg "tuple" = none
  z_sorted : mg "sorted" = none
  z_isinstance : mg "isinstance" = none
  z_any : mg "any" = none
  z_all : mg "all" = none
  z_list : mg "list" = none
  z_bool : mg "bool" = none
/-- all but what stands at l is as it was -/
def Keep (l : Addr) (H H' : Hp) : Prop := ∀ b o, b ≠ l → H b = some o → H' b = some o
def PoolR (H : Hp) (l c : Addr) (pos : Prop) : Prop := ∃ (ns : List Int) (i r s : Int), H l = some (.lst [.ref c, .int i, .int r, .int s]) ∧ H c = some (.lst (ns.map V.int)) ∧ c ≠ l ∧ (∀ n ∈ ns, 0 ≤ n) ∧ 0 ≤ i ∧ 0 ≤ r ∧ 0 ≤ s ∧ s < 2147483647 ∧ (pos → 0 < r)
abbrev Pool (H : Hp) (l c : Addr) : Prop := PoolR H l c False
/-- from H to H' the pool at l was drawn from, all else is kept -/
structure Ext (l c : Addr) (H H' : Hp) : Prop where
  keep : Keep l H H'
  pool : Pool H' l c
theorem Pool.ne {H : Hp} {l c p : Addr} (P : Pool H l c) (h : H p = none) : p ≠ l ∧ p ≠ c := by
  obtain ⟨ns, i, r, s, hl, hc, _⟩ := P
  exact ⟨(ne_of_none hl h).symm, (ne_of_none hc h).symm⟩
theorem Pool.upd {H : Hp} {l c p : Addr} {o : HO} (P : Pool H l c) (h1 : p ≠ l) (h2 : p ≠ c) : Pool (upd H p o) l c := by
  obtain ⟨ns, i, r, s, hl, hc, z⟩ := P
  exact ⟨ns, i, r, s, by rw [upd_ne h1.symm]; exact hl, by rw [upd_ne h2.symm]; exact hc, z⟩
theorem Ext.refl {l c : Addr} {H : Hp} (P : Pool H l c) : Ext l c H H := ⟨fun _ _ _ h => h, P⟩
theorem Ext.trans {l c : Addr} {H H1 H2 : Hp} (x : Ext l c H H1) (y : Ext l c H1 H2) : Ext l c H H2 := ⟨fun b o hb h => y.keep b o hb (x.keep b o hb h), y.pool⟩
/-- what was free ahead of the draws was free -/
theorem Ext.free {l c p : Addr} {H H' : Hp} (x : Ext l c H H') (P : Pool H l c) (h : H' p = none) : H p = none := by
  cases e : H p with
  | none => rfl
  | some o =>
    by_cases hb : p = l
    · subst hb
      obtain ⟨ns, i, r, s, hl, _⟩ := x.pool
      rw [hl] at h; cases h
    · rw [x.keep p o hb e] at h; cases h
theorem Ext.upd {l c p : Addr} {H H' : Hp} {o : HO} (x : Ext l c H H') (P : Pool H l c) (h : H p = none) : Ext l c H (L2.upd H' p o) :=
  ⟨fun b u hb hu => by rw [upd_ne (ne_of_none hu h)]; exact x.keep b u hb hu, x.pool.upd (P.ne h).1 (P.ne h).2⟩
theorem Ext.new {l c p : Addr} {H H' : Hp} {o : HO} (x : Ext l c H H') (P : Pool H l c) (h : H' p = none) : Ext l c H (L2.upd H' p o) := x.upd P (x.free P h)
theorem Ext.seqT {l c a : Addr} {K : PySem.W.Frag} {H H' : Hp} {xs : List V} (x : Ext l c H H') (P : Pool H l c) (h : SqT K H a xs) : SqT K H' a xs := by
  have nl : ∀ {o : HO}, H a = some o → (∀ ys, o ≠ .lst ys) → a ≠ l := fun e d z => by
    subst z
    obtain ⟨ns, i, r, s, hl, _⟩ := P
    rw [hl] at e; cases e
    exact d _ rfl
  rcases h with (h | ⟨o, h⟩) | h
  · exact .inl (.inl (x.keep _ _ (nl h (fun _ => HO.noConfusion)) h))
  · exact .inl (.inr ⟨o, x.keep _ _ (nl h (fun _ => HO.noConfusion)) h⟩)
  · exact .inr h
def spTake (n : Nat) : Sp := fun vs H Q _ => ∃ (l c : Addr) (m : Int) (p : Prop), vs = [.ref l, .int m] ∧ PoolR H l c p ∧ 0 < m ∧ m < 18446744073709551616 ∧ (2 ≤ n ∨ (1 ≤ n ∧ p)) ∧
  ∀ (d : Int) (H' : Hp), 0 ≤ d → d < m → Ext l c H H' → Q (.int d) H'
theorem vTake {σ : L2.St} {H : Hp} {Q : VK} {i : Nat} {m : Int} {l c : Addr} (h : σ[i]? = some (some (.ref l))) (P : Pool H l c) (h0 : 0 < m) (hm : m < 18446744073709551616)
    (q : ∀ (d : Int) (H' : Hp), 0 ≤ d → d < m → Ext l c H H' → Q (.int d) H') : tCall (spTake 2) [] E0 (tCons (tVar i) (tCons (tC (.int m)) tNil)) σ H Q :=
  ⟨_, h, l, c, m, False, rfl, P, h0, hm, .inl (Nat.le_refl 2), q⟩
section
variable {P : Program} {w : World} {K : PySem.W.Frag} {mg : Str → Option Value} {base : Heap}
abbrev s_law_take : Stmt := topS 42
theorem sc_law_take : FnScope ["pool", "many", "digit", "cell", "mixed"] ["pool", "many"] (defScope s_law_take) := ⟨rfl, rfl, rfl, by decide +kernel, rfl, by decide +kernel, by decide +kernel⟩
-- slots: 0:pool 1:many 2:digit 3:cell 4:mixed
theorem ok_take {n : Nat} {f : Addr} {fd : FuncData} (F : Fun K "_law_take" "_law_take" s_law_take f fd) (T : Txt K mg) (C_law_take : C8.Cal P w K mg base n "_law_take" (spTake n) []) :
    FnOk P w K mg base CX0 (n + 1) f fd ["pool", "many"] (spTake (n + 1)) := by
  refine F.ok sc_law_take (fun vs H Q E h => ?_) (fun cdv A outer s H vs Q E hr h => ?_)
  · obtain ⟨l, c, m, p, rfl, _⟩ := h
    rfl
  obtain ⟨l, c, m, p, rfl, ⟨ns, i, r, st, hl, hc, hcl, hns, hi, h0r, hs, hs2, hp⟩, hm, hm2, hn, q⟩ := h
  have hk : n ≤ n := Nat.le_refl n
  refine ⟨_, (pss_cons (ps_if (pt_cmpR op_gt (pe_ix ix_list (pv 0) pe_int (fun _ _ => rfl)) pe_int (nomark _)) (pss_cons (ps_set (i := 2) sc_law_take.nd rfl (Or.inl rfl) (pe_op op_mod (pe_callTy call_int1 (by rfl) T.z_int (by decide +kernel) (pa_cons (pe_ix ix_list (pv 0) pe_int (fun _ _ => rfl)) pa_nil)) (pv 1)))
    (pss_cons (ps_asg (pe_op op_fdivW (pe_ix ix_list (pv 0) pe_int (fun _ _ => rfl)) (pv 1)) (pg_sub (pv 0) pe_int set_list))
    (pss_one (ps_ret (pv 2))))) pss_nil)
    (pss_cons (ps_set (i := 3) sc_law_take.nd rfl (Or.inl rfl) pe_int)
    (C8.pss_cut (ps_if (pt_cmpR op_lt (pe_ix ix_list (pv 0) pe_int (fun _ _ => rfl)) (pe_callB call_len_seq (by rfl) T.z_len (by decide +kernel) (pa_cons (pe_ix ix_list (pv 0) pe_int (fun _ _ => rfl)) pa_nil)) (nomark _)) (pss_one (ps_set (i := 3) sc_law_take.nd rfl (Or.inl rfl) (pe_ix ix_list (pe_ix ix_list (pv 0) pe_int (fun _ _ => rfl)) (pe_ix ix_list (pv 0) pe_int (fun _ _ => rfl)) (fun _ _ => rfl)))) pss_nil)
    (pss_cons (ps_asg (pe_op op_add (pe_ix ix_list (pv 0) pe_int (fun _ _ => rfl)) pe_int) (pg_sub (pv 0) pe_int set_list))
    (pss_cons (ps_if (pt_cmpR op_ge (pv 3) (pe_op op_pow pe_int pe_int) (nomark _)) (pss_cons (ps_asg (pe_op op_fdivW (pv 3) pe_int) (pg_sub (pv 0) pe_int set_list))
    (pss_one (ps_ret (C8.pe_c C_law_take hr hk rfl (pa_cons (pv 0) (pa_cons (pv 1) pa_nil)))))) pss_nil)
    (pss_cons (ps_asg (pe_op op_mod (pe_callTy call_int1 (by rfl) T.z_int (by decide +kernel) (pa_cons (pe_op op_add (pe_op op_add (pe_op op_mul (pe_ix ix_list (pv 0) pe_int (fun _ _ => rfl)) pe_int) (pe_op op_mul (pv 3) pe_int)) (pe_op op_mul (pe_ix ix_list (pv 0) pe_int (fun _ _ => rfl)) pe_int)) pa_nil)) pe_int) (pg_sub (pv 0) pe_int set_list))
    (pss_cons (ps_set (i := 4) sc_law_take.nd rfl (Or.inl rfl) (pe_op op_mod (pe_callTy call_int1 (by rfl) T.z_int (by decide +kernel) (pa_cons (pe_op op_add (pe_op op_add (pe_op op_mul (pe_ix ix_list (pv 0) pe_int (fun _ _ => rfl)) (pe_ix ix_list (pv 0) pe_int (fun _ _ => rfl))) (pe_op op_mul (pe_ix ix_list (pv 0) pe_int (fun _ _ => rfl)) pe_int)) pe_int) pa_nil)) pe_int))
    (pss_one (ps_ret (pe_op op_mod (pe_callTy call_int1 (by rfl) T.z_int (by decide +kernel) (pa_cons (pe_op op_fdivW (pv 4) pe_int) pa_nil)) (pv 1))))))))))), ?_⟩
  have lgm : m.natAbs.log2 < 9000 := (wide_div (i := 0) (b := 64) hm (by rw [show (2 : Nat) ^ 64 = 18446744073709551616 from rfl]; omega) (by decide) (by decide)).2
  have lg2 : (2 : Int).natAbs.log2 < 9000 := by decide
  have ext : ∀ i' r' s' : Int, 0 ≤ i' → 0 ≤ r' → 0 ≤ s' → s' < 2147483647 → ∀ pp : Prop, (pp → 0 < r') → Keep l H (upd H l (.lst [.ref c, .int i', .int r', .int s'])) ∧ PoolR (upd H l (.lst [.ref c, .int i', .int r', .int s'])) l c pp := fun i' r' s' h1 h2 h3 h4 pp hpp =>
    ⟨fun b o hb hbo => by rw [upd_ne hb]; exact hbo, ns, i', r', s', upd_same, by rw [upd_ne hcl]; exact hc, hcl, hns, h1, h2, h3, h4, hpp⟩
  -- pool[2] > 0
  refine vIx rfl hl rfl ⟨_, _, rfl, rfl, _, rfl, ?_⟩
  refine ite2 (fun e => ?_) (fun e => ?_)
  · have e' : 0 < r := of_decide_eq_true e
    refine ⟨_, rfl, l, _, _, _, rfl, rfl, SqL.of hl, rfl, .inl ⟨_, rfl, _, rfl, _, _, rfl, rfl, hm, ?_⟩⟩
    refine vIx rfl hl rfl ⟨_, rfl, _, _, rfl, rfl, ⟨hm, lgm⟩, ?_⟩
    refine ⟨_, rfl, l, _, 2, 2, rfl, rfl, hl, rfl, _, rfl, ?_⟩
    have z := ext i (r / m) st hi (Int.ediv_nonneg h0r (by omega)) hs hs2 False False.elim
    exact q _ _ (Int.emod_nonneg _ (by omega)) (Int.emod_lt_of_pos _ hm) ⟨z.1, z.2⟩
  · have e0 : r = 0 := by have := of_decide_eq_false (Bool.eq_false_iff.mpr e); omega
    subst e0
    have n2 : 1 ≤ n := by
      rcases hn with hn | ⟨_, hn⟩
      · omega
      · exact absurd (hp hn) (by omega)
    refine ⟨fun σ' H' => ∃ z : Int, 0 ≤ z ∧ σ' = [some (.ref l), some (.int m), none, some (.int z), none] ∧ H' = H, ?_, ?_⟩
    · refine vIx rfl hl rfl (vIx rfl hl rfl ⟨c, _, rfl, .inl (SqL.of hc), _, _, rfl, rfl, _, rfl, ?_⟩)
      refine ite2 (fun e1 => ?_) (fun e1 => ⟨0, by omega, rfl, rfl⟩)
      have e1' : i < ((ns.map V.int).length : Nat) := of_decide_eq_true e1
      rw [List.length_map] at e1'
      obtain ⟨j, rfl⟩ : ∃ j : Nat, i = j := ⟨i.toNat, by omega⟩
      have hj : j < ns.length := by omega
      have g : (ns.map V.int)[j]? = some (.int ns[j]) := by rw [List.getElem?_map, List.getElem?_eq_getElem hj]; rfl
      refine vIx rfl hl rfl (vIx rfl hl rfl ⟨c, _, _, _, rfl, rfl, SqL.of hc, atI_nat g, ?_⟩)
      exact ⟨_, hns _ (List.getElem_mem hj), rfl, rfl⟩
    · rintro σ' H' ⟨z, hz, rfl, rfl⟩
      refine vIx rfl hl rfl ⟨_, _, rfl, rfl, _, rfl, l, _, 1, 1, rfl, rfl, hl, rfl, ?_⟩
      refine ⟨_, rfl, _, _, rfl, rfl, ⟨by decide, by decide, by decide⟩, _, _, rfl, rfl, _, rfl, ?_⟩
      refine ite2 (fun e1 => ?_) (fun e1 => ?_)
      · have e1' : (10 : Int) ^ 18 ≤ z := of_decide_eq_true e1
        refine ⟨_, rfl, _, _, rfl, rfl, ⟨by decide, lg2⟩, _, rfl, l, _, 2, 2, rfl, rfl, upd_same, rfl, ?_⟩
        refine ⟨_, rfl, _, rfl, ?_⟩
        have zz := ext (i + 1) (z / 2) st (by omega) (Int.ediv_nonneg hz (by omega)) hs hs2 True (fun _ => by omega)
        refine ⟨l, c, m, True, rfl, ?_, hm, hm2, .inr ⟨n2, trivial⟩, fun d H' h1 h2 x => q d H' h1 h2 ⟨?_, x.pool⟩⟩
        · show PoolR (upd (upd H' l _) l _) l c True
          rw [upd_upd]
          exact zz.2
        · intro b o hb hbo
          refine x.keep b o hb ?_
          show upd (upd _ l _) l _ b = _
          rw [upd_upd, upd_ne hb]
          exact hbo
      · have c1 : CMul st 48271 := .inr ⟨by decide, by decide⟩
        have c2 : CMul z 69621 := .inr ⟨by decide, by decide⟩
        have c3 : CMul (i + 1) 613 := .inr ⟨by decide, by decide⟩
        refine vIx rfl upd_same rfl ⟨_, _, rfl, rfl, c1, _, rfl, _, _, rfl, rfl, c2, _, _, rfl, rfl, vIx rfl upd_same rfl ⟨_, _, rfl, rfl, c3, _, _, rfl, rfl, .inl ⟨_, rfl, _, _, rfl, rfl, (show (0 : Int) < 2147483647 by decide), ?_⟩⟩⟩
        refine ⟨_, rfl, l, _, 3, 3, rfl, rfl, upd_same, rfl, ?_⟩
        have b1 : 0 ≤ (st * 48271 + z * 69621 + (i + 1) * 613) % 2147483647 := Int.emod_nonneg _ (by decide)
        have b2 : (st * 48271 + z * 69621 + (i + 1) * 613) % 2147483647 < 2147483647 := Int.emod_lt_of_pos _ (by decide)
        have c4 : CMul ((st * 48271 + z * 69621 + (i + 1) * 613) % 2147483647) ((st * 48271 + z * 69621 + (i + 1) * 613) % 2147483647) := .inr ⟨by omega, by omega⟩
        have c5 : CMul ((st * 48271 + z * 69621 + (i + 1) * 613) % 2147483647) 7919 := .inr ⟨by decide, by decide⟩
        refine vIx rfl upd_same rfl (vIx rfl upd_same rfl ⟨_, _, rfl, rfl, c4, vIx rfl upd_same rfl ⟨_, _, rfl, rfl, c5, _, _, rfl, rfl, _, _, rfl, rfl, .inl ⟨_, rfl, _, _, rfl, rfl, (show (0 : Int) < 1000000007 by decide), ?_⟩⟩⟩)
        have c6 : CDivW ((((st * 48271 + z * 69621 + (i + 1) * 613) % 2147483647) * ((st * 48271 + z * 69621 + (i + 1) * 613) % 2147483647) + ((st * 48271 + z * 69621 + (i + 1) * 613) % 2147483647) * 7919 + 104729) % 1000000007) 3 := ⟨by decide, by decide⟩
        refine ⟨_, rfl, _, _, rfl, rfl, c6, .inl ⟨_, rfl, _, rfl, _, _, rfl, rfl, hm, ?_⟩⟩
        have zz := ext (i + 1) 0 ((st * 48271 + z * 69621 + (i + 1) * 613) % 2147483647) (by omega) (by omega) b1 b2 False False.elim
        refine q _ _ (Int.emod_nonneg _ (by omega)) (Int.emod_lt_of_pos _ hm) ⟨?_, ?_⟩
        · show Keep l _ (upd (upd _ l _) l _)
          rw [upd_upd]
          exact zz.1
        · show Pool (upd (upd _ l _) l _) l c
          rw [upd_upd]
          exact zz.2
end
end PK
namespace PK
open PySem L2
/-! ### words -/
abbrev LET : Str := "abcdefghijklmnopqrstuvwxyz"
abbrev OTH : Str := "abcdefghijklmnopqrstuvwxyz0123456789_"
abbrev BARRED : List Str := ["get", "set", "plus", "minus", "new", "read", "write", "put"]
theorem let_len : LET.cps.toList.length = 26 := by decide +kernel
theorem oth_len : OTH.cps.toList.length = 37 := by decide +kernel
theorem line_big : (16777216 : Nat) ≤ sizeLine := by rw [sizeLine_eq]; decide
theorem small {n : Nat} (h : n ≤ 16777216) : n ≤ sizeLine := Nat.le_trans h line_big
theorem smallL {n : Nat} (h : n < 16777216) : n < sizeLine := Nat.lt_of_lt_of_le h line_big
theorem len_list (z : Str) : z.length = z.cps.toList.length := by unfold Str.length; simp
theorem yes_ {A B : Hp → Prop} {σ : L2.St} {H : Hp} (h : A H) : tYes σ H fun b H3 => if b = true then A H3 else B H3 := by
  show if true = true then A H else B H
  exact iteT h
/-- a drawn sign of a text -/
theorem strAt (z : Str) {n : Nat} (hz : z.cps.toList.length = n) (hn : n ≤ 1000) {d : Int} {H : Hp} {Q : VK} (h0 : 0 ≤ d) (h1 : d < (n : Int)) (q : ∀ s : Nat, s ∈ z.cps.toList → Q (.str ⟨#[s]⟩) H) : rIxS (.str z) (.int d) H Q := by
  obtain ⟨j, rfl⟩ : ∃ j : Nat, d = j := ⟨d.toNat, by omega⟩
  have hj : j < z.cps.toList.length := by omega
  exact ⟨z, _, _, rfl, rfl, by rw [len_list, hz]; exact small (by omega), atI_nat (List.getElem?_eq_getElem hj), q _ (List.getElem_mem hj)⟩
/-- the j-th word that is tried for the k-th place -/
def cand (j k : Nat) : Str := ("w" : Str) ++ (toString (j : Int) : Str) ++ ("_" : Str) ++ (toString (k : Int) : Str)
def pre (j : Nat) : Str := ("w" : Str) ++ (toString (j : Int) : Str) ++ ("_" : Str)
theorem pre_len : ∀ j, j < 27 → (pre j).length ≤ 4 := by decide +kernel
theorem str_len : ∀ j : Nat, j < 27 → ((toString (j : Int) : String) : Str).length ≤ 2 := by decide +kernel
theorem pre_inj : ∀ i, i < 27 → ∀ j, j < 27 → pre i = pre j → i = j := by decide +kernel
theorem app_cancel {a b t : Str} (h : a ++ t = b ++ t) : a = b := by
  have e : a.cps ++ t.cps = b.cps ++ t.cps := congrArg Str.cps h
  have e2 : a.cps.toList ++ t.cps.toList = b.cps.toList ++ t.cps.toList := by
    have := congrArg Array.toList e
    simpa using this
  exact Str.ext' (Array.toList_inj.mp (List.append_cancel_right e2))
theorem cand_inj {i j k : Nat} (hi : i < 27) (hj : j < 27) (h : cand i k = cand j k) : i = j := pre_inj i hi j hj (app_cancel h)
theorem cand_len {j k : Nat} (hj : j < 27) (hk : k < 27) : (cand j k).length ≤ 6 := by
  have h1 := pre_len j hj
  have h2 := str_len k hk
  show (pre j ++ _).length ≤ 6
  rw [Str.length_append]
  omega
theorem cand_bar (j k : Nat) : cand j k ∉ BARRED := by
  have h1 : 95 ∈ (cand j k).cps.toList := by
    show 95 ∈ ((((("w" : Str).cps ++ ((toString (j : Int) : String) : Str).cps) ++ ("_" : Str).cps) ++ ((toString (k : Int) : String) : Str).cps)).toList
    have e : ("_" : Str).cps.toList = [95] := by decide +kernel
    simp only [Array.toList_append, e, List.mem_append, List.mem_singleton]
    exact .inl (.inr trivial)
  have h2 : ∀ b ∈ BARRED, 95 ∉ b.cps.toList := by decide +kernel
  exact fun m => h2 _ m h1
theorem inj_le : ∀ (l m : List Str), l.Nodup → (∀ x ∈ l, x ∈ m) → l.length ≤ m.length
  | [], _, _, _ => Nat.zero_le _
  | x :: r, m, hn, hm => by
    obtain ⟨h1, h2⟩ := List.nodup_cons.mp hn
    have hx := hm x List.mem_cons_self
    have ih := inj_le r (m.erase x) h2 fun y hy => (List.mem_erase_of_ne (fun e => h1 (by rw [← e]; exact hy))).mpr (hm y (List.mem_cons_of_mem _ hy))
    rw [List.length_erase_of_mem hx] at ih
    have : 0 < m.length := List.length_pos_of_mem hx
    rw [List.length_cons]
    omega
/-- not all of m tried words stand in a list of fewer than m -/
theorem pigeon {m k : Nat} {ws : List Str} (hm : m < 27) (hl : ws.length < m) (h : ∀ t, t < m → cand t k ∈ ws) : False := by
  have n : ((List.range m).map fun t => cand t k).Nodup := by
    rw [List.Nodup, List.pairwise_map]
    refine List.Pairwise.imp_of_mem ?_ List.nodup_range
    intro a b ha hb hab e
    exact hab (cand_inj (Nat.lt_trans (List.mem_range.mp ha) hm) (Nat.lt_trans (List.mem_range.mp hb) hm) e)
  have := inj_le _ ws n fun x hx => by
    obtain ⟨t, ht, rfl⟩ := List.mem_map.mp hx
    exact h t (List.mem_range.mp ht)
  rw [List.length_map, List.length_range] at this
  omega
theorem inV_str (u : Str) : ∀ ws : List Str, inV (.str u) (ws.map V.str) = decide (u ∈ ws)
  | [] => by simp [inV]
  | x :: r => by
    have ih := inV_str u r
    unfold inV at ih ⊢
    rw [List.map_cons, List.any_cons, ih]
    show ((x == u) || decide (u ∈ r)) = _
    by_cases e : x = u
    · subst e; simp
    · have e2 : (x == u) = false := by simpa using e
      rw [e2, Bool.false_or]
      by_cases h : u ∈ r
      · simp [h]
      · simp [h, Ne.symm e]
theorem flat_strs (ws : List Str) : (ws.map V.str).all flatV = true := by
  rw [List.all_eq_true]
  intro x hx
  obtain ⟨s, _, rfl⟩ := List.mem_map.mp hx
  rfl
/-- signs of words -/
def one (s : Nat) : Str := ⟨#[s]⟩
def Ones (ss : List Nat) : Prop := ∀ s ∈ ss, s ∈ OTH.cps.toList
theorem join_one : ∀ ss : List Nat, (Str.join "" (ss.map one)).cps.toList = ss
  | [] => rfl
  | [s] => rfl
  | s :: t :: r => by
    have ih := join_one (t :: r)
    have e : ("" : Str).cps.toList = [] := by decide +kernel
    show ((one s).cps ++ ("" : Str).cps ++ (Str.join "" ((t :: r).map one)).cps).toList = _
    rw [Array.toList_append, Array.toList_append, ih, e]
    rfl
theorem txt_join (ss : List Nat) : (Txt.join "" (ss.map one)).cps.toList = ss := by
  show (Builtin.Str.glued ("" : Str) (ss.map one)).cps.toList = ss
  rw [StrLaws.glued_eq_join]
  exact join_one ss
theorem one_sum (ss : List Nat) : ((ss.map one).map (·.length)).sum = ss.length := by
  induction ss with
  | nil => rfl
  | cons s r ih =>
    rw [List.map_cons, List.map_cons, List.sum_cons, ih, List.length_cons]
    show 1 + r.length = _
    omega
/-- a word: signs that words have, the first one a letter -/
structure Wd (x : Str) : Prop where
  lo : 1 ≤ x.length
  hi : x.length ≤ 12
  hd : ∃ s r, x.cps.toList = s :: r ∧ s ∈ LET.cps.toList
  al : ∀ s ∈ x.cps.toList, s ∈ OTH.cps.toList
theorem Wd.of {x : Str} {s : Nat} {r : List Nat} (e : x.cps.toList = s :: r) (hs : s ∈ LET.cps.toList) (ho : Ones r) (hl : r.length ≤ 11) : Wd x where
  lo := by rw [len_list, e, List.length_cons]; omega
  hi := by rw [len_list, e, List.length_cons]; omega
  hd := ⟨s, r, e, hs⟩
  al := fun z hz => by
    rw [e] at hz
    rcases List.mem_cons.mp hz with h | h
    · rw [h]
      have : ∀ s ∈ LET.cps.toList, s ∈ OTH.cps.toList := by decide +kernel
      exact this s hs
    · exact ho z h
theorem pre_wd : ∀ j, j < 27 → ∀ s ∈ (pre j).cps.toList, s ∈ OTH.cps.toList := by decide +kernel
theorem num_wd : ∀ j : Nat, j < 27 → ∀ s ∈ ((toString (j : Int) : String) : Str).cps.toList, s ∈ OTH.cps.toList := by decide +kernel
theorem pre_hd : ∀ j, j < 27 → (pre j).cps.toList[0]? = some 119 := by decide +kernel
theorem cand_wd {j k : Nat} (hj : j < 27) (hk : k < 27) : Wd (cand j k) := by
  have e : (cand j k).cps.toList = (pre j).cps.toList ++ ((toString (k : Int) : String) : Str).cps.toList := by
    show ((pre j).cps ++ ((toString (k : Int) : String) : Str).cps).toList = _
    rw [Array.toList_append]
  have h0 := pre_hd j hj
  cases e1 : (pre j).cps.toList with
  | nil => rw [e1] at h0; cases h0
  | cons s r =>
    rw [e1] at h0 e
    have hs : s = 119 := Option.some.inj h0
    refine Wd.of (s := s) (r := r ++ ((toString (k : Int) : String) : Str).cps.toList) e (by rw [hs]; decide +kernel) (fun z hz => ?_) ?_
    · rcases List.mem_append.mp hz with h | h
      · exact pre_wd j hj z (by rw [e1]; exact List.mem_cons_of_mem _ h)
      · exact num_wd k hk z h
    · have h1 := pre_len j hj
      have h2 := str_len k hk
      rw [len_list] at h1 h2
      rw [e1, List.length_cons] at h1
      rw [List.length_append]
      omega
theorem let_oth : ∀ s ∈ LET.cps.toList, s ∈ OTH.cps.toList := by decide +kernel
theorem ixN_of {n : Nat} {k : Int} (h0 : 0 ≤ k) (h1 : k < (n : Int)) : ixN n k = some k.toNat := by
  unfold ixN
  rw [if_pos h0, if_pos h1]
theorem Ones.set {row : List Nat} (h : Ones row) {s : Nat} (hs : s ∈ OTH.cps.toList) (j : Nat) : Ones (row.set j s) := fun x hx => by
  rcases List.mem_or_eq_of_mem_set hx with h1 | h1
  · exact h x h1
  · rw [h1]; exact hs
/-- the signs of a word, one of them another letter -/
theorem set_hd {s0 : Nat} {r : List Nat} (h0 : s0 ∈ LET.cps.toList) (hr : Ones r) {s : Nat} (hs : s ∈ LET.cps.toList) (j : Nat) : ∃ s1 r1, (s0 :: r).set j s = s1 :: r1 ∧ s1 ∈ LET.cps.toList ∧ Ones r1 ∧ r1.length = r.length := by
  cases j with
  | zero => exact ⟨s, r, rfl, hs, hr, rfl⟩
  | succ j => exact ⟨s0, r.set j s, rfl, h0, hr.set (let_oth _ hs) j, List.length_set ..⟩
end PK
namespace PK
open PySem L2
/-! ### data of tuples -/
mutual
inductive Dt (K : PySem.W.Frag) (H : Hp) : V → PyData → Prop
  | non : Dt K H .non .none
  | bl (b : Bool) : Dt K H (.bl b) (.bool b)
  | int (i : Int) : Dt K H (.int i) (.int i)
  | str (x : Str) : Dt K H (.str x) (.str x)
  | tup {a : Addr} {xs : List V} {ds : List PyData} : SqT K H a xs → DtAll K H xs ds → Dt K H (.ref a) (.tuple ds)
inductive DtAll (K : PySem.W.Frag) (H : Hp) : List V → List PyData → Prop
  | nil : DtAll K H [] []
  | cons {v : V} {vs : List V} {d : PyData} {ds : List PyData} : Dt K H v d → DtAll K H vs ds → DtAll K H (v :: vs) (d :: ds)
end
section
variable {K : PySem.W.Frag} {H H' : Hp}
mutual
theorem Dt.dp : ∀ (d : PyData) (v : V), Dt K H v d → Dp K H v d
  | .none, _, h => by cases h; exact .non
  | .bool _, _, h => by cases h; exact .bl _
  | .int _, _, h => by cases h; exact .int _
  | .str _, _, h => by cases h; exact .str _
  | .list _, _, h => by cases h
  | .dict _, _, h => by cases h
  | .tuple ds, _, h => by
    cases h with
    | tup s a => exact .tup s (DtAll.dp ds _ a)
theorem DtAll.dp : ∀ (ds : List PyData) (vs : List V), DtAll K H vs ds → DpAll K H vs ds
  | [], _, h => by cases h; exact .nil
  | d :: ds, _, h => by
    cases h with
    | cons h1 h2 => exact .cons (Dt.dp d _ h1) (DtAll.dp ds _ h2)
end
mutual
theorem Dt.mono (hT : ∀ a xs, SqT K H a xs → SqT K H' a xs) : ∀ (d : PyData) (v : V), Dt K H v d → Dt K H' v d
  | .none, _, h => by cases h; exact .non
  | .bool _, _, h => by cases h; exact .bl _
  | .int _, _, h => by cases h; exact .int _
  | .str _, _, h => by cases h; exact .str _
  | .list _, _, h => by cases h
  | .dict _, _, h => by cases h
  | .tuple ds, _, h => by
    cases h with
    | tup s a => exact .tup (hT _ _ s) (DtAll.mono hT ds _ a)
theorem DtAll.mono (hT : ∀ a xs, SqT K H a xs → SqT K H' a xs) : ∀ (ds : List PyData) (vs : List V), DtAll K H vs ds → DtAll K H' vs ds
  | [], _, h => by cases h; exact .nil
  | d :: ds, _, h => by
    cases h with
    | cons h1 h2 => exact .cons (Dt.mono hT d _ h1) (DtAll.mono hT ds _ h2)
end
theorem Same.seqT {a : Addr} {xs : List V} (e : Same H H') (h : SqT K H a xs) : SqT K H' a xs := by
  rcases h with (h | ⟨o, h⟩) | h
  · exact .inl (.inl (e _ _ h))
  · exact .inl (.inr ⟨o, e _ _ h⟩)
  · exact .inr h
theorem Dt.same {d : PyData} {v : V} (h : Dt K H v d) (e : Same H H') : Dt K H' v d := Dt.mono (fun _ _ q => Same.seqT e q) d v h
theorem Dt.ext {l c : Addr} {d : PyData} {v : V} (h : Dt K H v d) (P : Pool H l c) (x : Ext l c H H') : Dt K H' v d := Dt.mono (fun _ _ q => x.seqT P q) d v h
theorem same_new {p : Addr} {o : HO} (h : H p = none) : Same H (upd H p o) := fun b u e => by
  rw [upd_ne (ne_of_none e h)]
  exact e
theorem Dt.new {d : PyData} {v : V} {p : Addr} {o : HO} (h : Dt K H v d) (hp : H p = none) : Dt K (upd H p o) v d := h.same (same_new hp)
theorem Dt.s {v : V} {x : Str} (h : Dt K H v (.str x)) : v = .str x := by cases h; rfl
theorem Dt.i {v : V} {x : Int} (h : Dt K H v (.int x)) : v = .int x := by cases h; rfl
theorem Dt.t1 {v : V} {d : PyData} (h : Dt K H v (.tuple [d])) : ∃ a x, v = .ref a ∧ SqT K H a [x] ∧ Dt K H x d := by
  cases h with
  | tup s a => cases a with
    | cons h1 r => cases r; exact ⟨_, _, rfl, s, h1⟩
theorem Dt.t2 {v : V} {d e : PyData} (h : Dt K H v (.tuple [d, e])) : ∃ a x y, v = .ref a ∧ SqT K H a [x, y] ∧ Dt K H x d ∧ Dt K H y e := by
  cases h with
  | tup s a => cases a with
    | cons h1 r => cases r with
      | cons h2 r => cases r; exact ⟨_, _, _, rfl, s, h1, h2⟩
theorem Dt.t3 {v : V} {d e f : PyData} (h : Dt K H v (.tuple [d, e, f])) : ∃ a x y z, v = .ref a ∧ SqT K H a [x, y, z] ∧ Dt K H x d ∧ Dt K H y e ∧ Dt K H z f := by
  cases h with
  | tup s a => cases a with
    | cons h1 r => cases r with
      | cons h2 r => cases r with
        | cons h3 r => cases r; exact ⟨_, _, _, _, rfl, s, h1, h2, h3⟩
theorem Dt.tn {v : V} {ds : List PyData} (h : Dt K H v (.tuple ds)) : ∃ a xs, v = .ref a ∧ SqT K H a xs ∧ DtAll K H xs ds := by
  cases h with
  | tup s a => exact ⟨_, _, rfl, s, a⟩
theorem Dt.mk2 {p : Addr} {x y : V} {d e : PyData} (hp : H p = none) (h1 : Dt K H x d) (h2 : Dt K H y e) : Dt K (upd H p (.tup [x, y])) (.ref p) (.tuple [d, e]) :=
  .tup (SqT.of upd_same) (.cons (h1.new hp) (.cons (h2.new hp) .nil))
theorem Dt.mk3 {p : Addr} {x y z : V} {d e f : PyData} (hp : H p = none) (h1 : Dt K H x d) (h2 : Dt K H y e) (h3 : Dt K H z f) : Dt K (upd H p (.tup [x, y, z])) (.ref p) (.tuple [d, e, f]) :=
  .tup (SqT.of upd_same) (.cons (h1.new hp) (.cons (h2.new hp) (.cons (h3.new hp) .nil)))
theorem Dt.mk1 {p : Addr} {x : V} {d : PyData} (hp : H p = none) (h1 : Dt K H x d) : Dt K (upd H p (.tup [x])) (.ref p) (.tuple [d]) :=
  .tup (SqT.of upd_same) (.cons (h1.new hp) .nil)
end
/-- xs[j] of a name, a tuple -/
theorem vTx {K : PySem.W.Frag} {σ : L2.St} {H : Hp} {Q : VK} {i : Nat} {p : Addr} {xs : List V} {j : Int} {v : V} (h : σ[i]? = some (some (.ref p))) (hl : SqT K H p xs) (ha : atI xs j = some v) (q : Q v H) :
    tOp (rIxT K) (tVar i) (tC (.int j)) σ H Q := ⟨_, h, p, xs, j, v, rfl, rfl, hl, ha, q⟩
section
variable {s t : Str} {A B : Prop}
theorem sT (e : s = t) (h : A) : if decide (V.str s = V.str t) = true then A else B := by rw [decide_eq_true (by rw [e])]; exact iteT h
theorem sF (e : s ≠ t) (h : B) : if decide (V.str s = V.str t) = true then A else B := by rw [decide_eq_false (fun z => e (V.str.inj z))]; exact iteF h
theorem nT (e : s ≠ t) (h : A) : if (!decide (V.str s = V.str t)) = true then A else B := by rw [decide_eq_false (fun z => e (V.str.inj z))]; exact iteT h
theorem nF (e : s = t) (h : B) : if (!decide (V.str s = V.str t)) = true then A else B := by rw [decide_eq_true (by rw [e])]; exact iteF h
end
theorem Same.upd {H H' : Hp} {p : Addr} {o : HO} (e : Same H H') (h : H p = none) : Same H (L2.upd H' p o) := fun b u q => by
  rw [upd_ne (ne_of_none q h)]
  exact e _ _ q
/-- isinstance(x, T) of a name and a built-in class -/
theorem vIsi {σ : L2.St} {H : Hp} {Q : VK} {i : Nat} {v : V} {U Tn : String} {b : Bool} (h : σ[i]? = some (some v)) (ty : TyX K H v (.type U)) (kb : kitB U Tn = some b) (q : Q (.bl b) H) :
    tCB (rIsi K) (tCons (tVar i) (tCons (tC (.ty Tn)) tNil)) σ H Q := ⟨_, h, v, .ty Tn, _, _, b, rfl, .ty Tn, ty, kit_ty kb, q⟩
theorem ty_tup {H : Hp} {a : Addr} {xs : List V} (h : SqT K H a xs) : TyX K H (.ref a) (.type "tuple") := by
  rcases h with (h | ⟨o, h⟩) | ⟨o, its, n, h, hc, _⟩
  · exact .base (.tup h)
  · exact .fTuple h
  · exact .kTuple h hc
theorem ty_lst {H : Hp} {a : Addr} {xs : List V} (h : SqL K H a xs) : TyX K H (.ref a) (.type "list") := by
  rcases h with (h | ⟨o, h⟩) | ⟨o, its, n, h, hc, _⟩
  · exact .base (.lst h)
  · exact .base (.frz h)
  · exact .kList h hc
theorem DtAll.append {K : PySem.W.Frag} {H : Hp} : ∀ {xs ys : List V} {ds es : List PyData}, DtAll K H xs ds → DtAll K H ys es → DtAll K H (xs ++ ys) (ds ++ es)
  | _, _, _, _, .nil, h => h
  | _, _, _, _, .cons a b, h => .cons a (DtAll.append b h)
/-- a list that grows is no tuple -/
theorem seqT_upd {K : PySem.W.Frag} {H : Hp} {D a : Addr} {vs ws zs : List V} (h : SqT K H a zs) (hD : H D = some (.lst vs)) : SqT K (upd H D (.lst ws)) a zs := by
  rcases h with (h | ⟨o, h⟩) | h
  · exact .inl (.inl (by rw [upd_ne (ne_of h hD (fun z => by cases z))]; exact h))
  · exact .inl (.inr ⟨o, by rw [upd_ne (ne_of h hD (fun z => by cases z))]; exact h⟩)
  · exact .inr h
theorem seqT_updK {K : PySem.W.Frag} {H : Hp} {D a : Addr} {kvs kvs' : List (Key × V)} {zs : List V} (h : SqT K H a zs) (hD : H D = some (.dK kvs)) : SqT K (upd H D (.dK kvs')) a zs := by
  rcases h with (h | ⟨o, h⟩) | h
  · exact .inl (.inl (by rw [upd_ne (ne_of h hD (fun z => by cases z))]; exact h))
  · exact .inl (.inr ⟨o, by rw [upd_ne (ne_of h hD (fun z => by cases z))]; exact h⟩)
  · exact .inr h
theorem valV_hd {k : Key} {v : V} {r : List (Key × V)} : valV ((k, v) :: r) k = some v := by simp [valV]
theorem valV_tl {k k' : Key} {v : V} {r : List (Key × V)} (h : k' ≠ k) : valV ((k', v) :: r) k = valV r k := by simp [valV, h]
theorem Pool.same {H H' : Hp} {l c : Addr} (P : Pool H l c) (e : Same H H') : Pool H' l c := by
  obtain ⟨ns, i, r, s, hl, hc, z⟩ := P
  exact ⟨ns, i, r, s, e _ _ hl, e _ _ hc, z⟩
theorem Ext.same {H H1 H2 : Hp} {l c : Addr} (x : Ext l c H H1) (e : Same H1 H2) : Ext l c H H2 := ⟨fun b o hb h => e _ _ (x.keep b o hb h), x.pool.same e⟩
/-- a new tuple at the end of a list of data -/
theorem snoc_data {K : PySem.W.Frag} {H : Hp} {D t : Addr} {o : HO} {vs : List V} {ds : List PyData} {d : PyData} (da : DtAll K H vs ds) (hD : H D = some (.lst vs)) (ht : H t = none) (dt : Dt K (upd H t o) (.ref t) d) :
    (upd H t o) D = some (.lst vs) ∧ DtAll K (upd (upd H t o) D (.lst (vs ++ [.ref t]))) (vs ++ [.ref t]) (ds ++ [d]) := by
  have h1 : (upd H t o) D = some (.lst vs) := by rw [upd_ne (ne_of_none hD ht)]; exact hD
  refine ⟨h1, DtAll.mono (fun _ _ z => seqT_upd z h1) _ _ (DtAll.append (DtAll.mono (fun _ _ z => Same.seqT (same_new ht) z) _ _ da) (.cons dt .nil))⟩
theorem DtAll.ext {K : PySem.W.Frag} {H H' : Hp} {l c : Addr} {vs : List V} {ds : List PyData} (h : DtAll K H vs ds) (P : Pool H l c) (x : Ext l c H H') : DtAll K H' vs ds := DtAll.mono (fun _ _ z => x.seqT P z) _ _ h
theorem DtAll.same {K : PySem.W.Frag} {H H' : Hp} {vs : List V} {ds : List PyData} (h : DtAll K H vs ds) (x : Same H H') : DtAll K H' vs ds := DtAll.mono (fun _ _ z => Same.seqT x z) _ _ h
end PK
namespace PK
open PySem L2
/-! the pool -/
def enc (z : Int) : Int := if 0 ≤ z then 2 * z else -2 * z - 1
def spPool (K : PySem.W.Frag) : Sp := fun vs H Q _ => ∃ (a : Addr) (ns : List Int), vs = [.ref a] ∧ SqL K H a (ns.map V.int) ∧ ns.length ≤ 63 ∧
  ∀ (H' : Hp) (l c : Addr), Same H H' → H l = none → Pool H' l c → Q (.ref l) H'
section
variable {P : Program} {w : World} {K : PySem.W.Frag} {mg : Str → Option Value} {base : Heap}
abbrev s_law_pool : Stmt := topS 41
theorem sc_law_pool : FnScope ["script", "cell"] ["script"] (defScope s_law_pool) := ⟨rfl, rfl, rfl, by decide +kernel, rfl, by decide +kernel, by decide +kernel⟩
-- slots: 0:script 1:cell(comp)
theorem ok_pool {f : Addr} {fd : FuncData} (F : Fun K "_law_pool" "_law_pool" s_law_pool f fd) :
    FnOk P w K mg base CX0 1 f fd ["script"] (spPool K) := by
  refine F.ok sc_law_pool (fun vs H Q E h => ?_) (fun cdv A outer s H vs Q E hr h => ?_)
  · obtain ⟨a, ns, rfl, _⟩ := h
    rfl
  obtain ⟨a, ns, rfl, hS, hlen, q⟩ := h
  refine ⟨_, (pss_one (ps_ret (pe_lst (pa_cons (pe_lc (own := [("cell", 1)]) (g := (gName 1)) (tt := tYes) (by rfl) sc_law_pool.nd (pi_list (pv 0)) (blkOk_by (N := ["script", "cell"]) (sc := defScope s_law_pool) (by decide +kernel)) (fun _ _ _ _ _ => (pg_name (i := 1) sc_law_pool.nd rfl (Or.inl rfl))) (fun _ _ _ _ _ => pts_nil) (fun _ _ _ _ _ => (pe_ifExp (pt_cmpR op_ge (pv 1) pe_int (nomark _)) (pe_op op_mul pe_int (pv 1)) (pe_op op_sub (pe_op op_mul (pe_un un_neg pe_int) (pv 1)) pe_int)))) (pa_cons pe_int (pa_cons pe_int (pa_cons pe_int pa_nil))))))), ?_⟩
  refine ⟨_, rfl, a, rfl, ⟨_, hS⟩, fun D hD => lc_list (K := K) (a := a) (xs := ns.map V.int) (fun i H' => i ≤ ns.length ∧ Same H H' ∧ H' D = some (.lst (((ns.take i).map enc).map V.int))) ⟨Nat.zero_le _, same_new hD, upd_same⟩ (fun i H' _ h => h.2.1.seq hS) ?_ ?_⟩
  · rintro i x H' hi ⟨_, sm, hd⟩
    have hi2 : i < ns.length := by
      have := (List.getElem?_eq_some_iff.mp hi).1
      rw [List.length_map] at this
      exact this
    rw [List.getElem?_map, List.getElem?_eq_getElem hi2] at hi
    cases hi
    have fin : ∀ z : Int, z = enc ns[i] → upd H' D (.lst (((ns.take i).map enc).map V.int ++ [V.int z])) D = some (.lst (((ns.take (i + 1)).map enc).map V.int)) := fun z e => by
      rw [upd_same, List.take_add_one, List.getElem?_eq_getElem hi2, List.map_append, List.map_append, e]
      rfl
    have ll : (((ns.take i).map enc).map V.int).length < sizeLine := by
      rw [List.length_map, List.length_map, List.length_take]
      exact smallL (by omega)
    refine ⟨rfl, yes_ ⟨_, rfl, _, _, rfl, rfl, _, rfl, ite2 (fun e => ?_) (fun e => ?_)⟩⟩
    · have e' : ns[i] ≥ 0 := of_decide_eq_true e
      exact ⟨_, rfl, _, _, rfl, rfl, .inl ⟨by decide, by decide⟩, _, hd, ll, hi2, Same.upd sm hD, fin _ (by unfold enc; rw [if_pos e'])⟩
    · have e' : ¬ ns[i] ≥ 0 := fun z => e (decide_eq_true z)
      exact ⟨_, rfl, _, rfl, _, _, rfl, rfl, .inl ⟨by decide, by decide⟩, _, _, rfl, rfl, _, hd, ll, hi2, Same.upd sm hD, fin _ (by unfold enc; rw [if_neg (by omega)])⟩
  · rintro H' ⟨_, sm, hd⟩
    rw [List.length_map, List.take_of_length_le (Nat.le_refl _)] at hd
    refine ⟨small (by show 4 ≤ _; decide), fun p hp => ?_⟩
    refine q _ p D (Same.upd sm (sm.free hp)) (sm.free hp) ⟨ns.map enc, 0, 0, 17, upd_same, by rw [upd_ne (ne_of_none hd hp)]; exact hd, ne_of_none hd hp, fun n hn => ?_, by decide, by decide, by decide, by decide, False.elim⟩
    obtain ⟨z, _, rfl⟩ := List.mem_map.mp hn
    unfold enc
    split <;> omega
end
end PK
namespace PK
open PySem L2
theorem DtAll.lenD {K : PySem.W.Frag} {H : Hp} : ∀ {xs : List V} {ds : List PyData}, DtAll K H xs ds → xs.length = ds.length
  | _, _, .nil => rfl
  | _, _, .cons _ t => by rw [List.length_cons, List.length_cons, DtAll.lenD t]
theorem DtAll.getX {K : PySem.W.Frag} {H : Hp} : ∀ {xs : List V} {ds : List PyData} {i : Nat} {x : V}, DtAll K H xs ds → xs[i]? = some x → ∃ d, ds[i]? = some d ∧ Dt K H x d
  | _, _, _, _, .nil, e => by simp at e
  | _, _, 0, _, .cons h _, e => by simp at e; subst e; exact ⟨_, rfl, h⟩
  | _, _, i + 1, _, .cons _ t, e => by
    obtain ⟨d, h1, h2⟩ := DtAll.getX (i := i) t (by simpa using e)
    exact ⟨d, by simpa using h1, h2⟩
theorem DtAll.getD {K : PySem.W.Frag} {H : Hp} : ∀ {xs : List V} {ds : List PyData} {i : Nat} {d : PyData}, DtAll K H xs ds → ds[i]? = some d → ∃ x, xs[i]? = some x ∧ Dt K H x d
  | _, _, _, _, .nil, e => by simp at e
  | _, _, 0, _, .cons h _, e => by simp at e; subst e; exact ⟨_, rfl, h⟩
  | _, _, i + 1, _, .cons _ t, e => by
    obtain ⟨d, h1, h2⟩ := DtAll.getD (i := i) t (by simpa using e)
    exact ⟨d, by simpa using h1, h2⟩
theorem DtAll.splitR {K : PySem.W.Frag} {H : Hp} : ∀ {xs : List V} {ds es : List PyData}, DtAll K H xs (ds ++ es) → ∃ ys zs, xs = ys ++ zs ∧ DtAll K H ys ds ∧ DtAll K H zs es
  | xs, [], es, h => ⟨[], xs, rfl, .nil, h⟩
  | _, d :: ds, es, h => by
    cases h with
    | cons h t =>
      obtain ⟨ys, zs, rfl, h1, h2⟩ := DtAll.splitR (ds := ds) t
      exact ⟨_ :: ys, zs, rfl, .cons h h1, h2⟩
theorem DtAll.ints {K : PySem.W.Frag} {H : Hp} : ∀ ns : List Int, DtAll K H (ns.map V.int) (ns.map PyData.int)
  | [] => .nil
  | n :: r => .cons (.int n) (DtAll.ints r)
theorem DtAll.intsE {K : PySem.W.Frag} {H : Hp} : ∀ {xs : List V} {ns : List Int}, DtAll K H xs (ns.map PyData.int) → xs = ns.map V.int
  | _, [], h => by cases h; rfl
  | _, n :: r, h => by
    cases h with
    | cons h t => rw [h.i, DtAll.intsE t]; rfl
theorem DtAll.upd {K : PySem.W.Frag} {H : Hp} {D : Addr} {vs us xs : List V} {ds : List PyData} (h : DtAll K H xs ds) (hD : H D = some (.lst vs)) : DtAll K (L2.upd H D (.lst us)) xs ds := DtAll.mono (fun _ _ z => seqT_upd z hD) _ _ h
theorem Dt.updL {K : PySem.W.Frag} {H : Hp} {D : Addr} {vs us : List V} {x : V} {d : PyData} (h : Dt K H x d) (hD : H D = some (.lst vs)) : Dt K (L2.upd H D (.lst us)) x d := Dt.mono (fun _ _ z => seqT_upd z hD) _ _ h
section
variable {K : PySem.W.Frag} {It : It} {n : Nat} {G : Hp → Prop} {Y : Nat → Hp → V → Hp → Prop}
/-- a comprehension of data, all else kept -/
theorem lcS (wk : Walk It n G Y) {g : TG} {te : TE} {vs : List Nat} {σ : L2.St} {H1 : Hp} {D : Addr} {Qd : Hp → Prop} (hD : H1 D = none) (hn : n ≤ 10000000) (Jv : List PyData → Prop) (j0 : Jv []) (hG : ∀ H', Same H1 H' → G H')
    (hs : ∀ i x H H' ds (R : V → Hp → Prop), i < n → Same H1 H → Y i H x H' → Jv ds → ds.length = i → (∀ d y H4, Same H H4 → Dt K H4 y d → Jv (ds ++ [d]) → R y H4) → g x (wipe σ vs) H' fun σ2 H2 => wipe σ2 vs = wipe σ vs ∧ te σ2 H2 R)
    (hd : ∀ H' ws ds, Same H1 H' → H' D = some (.lst ws) → DtAll K H' ws ds → ds.length = n → Jv ds → Qd H') :
    ∃ W : Nat → Nat → Hp → Prop, (∃ m, W 0 m (upd H1 D (.lst []))) ∧ ∀ i m H, W i m H →
      (It.stop i H ∧ Qd H) ∨ (It.go i H ∧ ∃ Nx : Hp → Prop, (∀ H', Nx H' → ∃ m', m' < m ∧ W (i + 1) m' H') ∧ ∀ x H', It.yld i H x H' → g x (wipe σ vs) H' fun σ2 H2 => wipe σ2 vs = wipe σ vs ∧ tYes σ2 H2 fun b H3 =>
        if b = true then te σ2 H3 fun y H4 => ∃ acc, H4 D = some (.lst acc) ∧ acc.length < sizeLine ∧ Nx (upd H4 D (.lst (acc ++ [y]))) else Nx H3) := by
  refine lc_it wk (fun i H' => ∃ (ws : List V) (ds : List PyData), Same H1 H' ∧ H' D = some (.lst ws) ∧ DtAll K H' ws ds ∧ ds.length = i ∧ Jv ds) ⟨[], [], same_new hD, upd_same, .nil, rfl, j0⟩ (fun i H' _ h => ?_) (fun i x H H' hi h y => ?_) (fun H' h => ?_)
  · obtain ⟨_, _, s, _⟩ := h
    exact hG _ s
  · obtain ⟨ws, ds, s, hw, da, len, j⟩ := h
    refine hs i x H H' ds (fun y H4 => ∃ acc, H4 D = some (.lst acc) ∧ acc.length < sizeLine ∧ ∃ (ws : List V) (ds : List PyData), Same H1 (upd H4 D (.lst (acc ++ [y]))) ∧ (upd H4 D (.lst (acc ++ [y]))) D = some (.lst ws) ∧ DtAll K (upd H4 D (.lst (acc ++ [y]))) ws ds ∧ ds.length = i + 1 ∧ Jv ds) hi s y j len fun d y H4 s4 dy j4 => ?_
    have hw4 := s4 _ _ hw
    refine ⟨ws, hw4, smallL (by rw [da.lenD, len]; omega), ws ++ [y], ds ++ [d], Same.upd (s.trans s4) hD, upd_same, ?_, by rw [List.length_append, len]; rfl, j4⟩
    exact ((da.same s4).append (.cons dy .nil)).upd hw4
  · obtain ⟨ws, ds, s, hw, da, len, j⟩ := h
    exact hd _ ws ds s hw da len j
/-- a comprehension of data that draws from the pool -/
theorem lcX (wk : Walk It n G Y) {g : TG} {te : TE} {vs : List Nat} {σ : L2.St} {H1 : Hp} {D l c : Addr} {Qd : Hp → Prop} (P : Pool H1 l c) (hD : H1 D = none) (hn : n ≤ 10000000) (Jv : List PyData → Prop) (j0 : Jv []) (hG : ∀ H', Ext l c H1 H' → G H')
    (hs : ∀ i x H H' ds (R : V → Hp → Prop), i < n → Ext l c H1 H → Y i H x H' → Jv ds → ds.length = i → (∀ d y H4, Ext l c H H4 → Dt K H4 y d → Jv (ds ++ [d]) → R y H4) → g x (wipe σ vs) H' fun σ2 H2 => wipe σ2 vs = wipe σ vs ∧ te σ2 H2 R)
    (hd : ∀ H' ws ds, Ext l c H1 H' → H' D = some (.lst ws) → DtAll K H' ws ds → ds.length = n → Jv ds → Qd H') :
    ∃ W : Nat → Nat → Hp → Prop, (∃ m, W 0 m (upd H1 D (.lst []))) ∧ ∀ i m H, W i m H →
      (It.stop i H ∧ Qd H) ∨ (It.go i H ∧ ∃ Nx : Hp → Prop, (∀ H', Nx H' → ∃ m', m' < m ∧ W (i + 1) m' H') ∧ ∀ x H', It.yld i H x H' → g x (wipe σ vs) H' fun σ2 H2 => wipe σ2 vs = wipe σ vs ∧ tYes σ2 H2 fun b H3 =>
        if b = true then te σ2 H3 fun y H4 => ∃ acc, H4 D = some (.lst acc) ∧ acc.length < sizeLine ∧ Nx (upd H4 D (.lst (acc ++ [y]))) else Nx H3) := by
  have nD := (P.ne hD).1
  refine lc_it wk (fun i H' => ∃ (ws : List V) (ds : List PyData), Ext l c H1 H' ∧ H' D = some (.lst ws) ∧ DtAll K H' ws ds ∧ ds.length = i ∧ Jv ds) ⟨[], [], (Ext.refl P).new P hD, upd_same, .nil, rfl, j0⟩ (fun i H' _ h => ?_) (fun i x H H' hi h y => ?_) (fun H' h => ?_)
  · obtain ⟨_, _, s, _⟩ := h
    exact hG _ s
  · obtain ⟨ws, ds, s, hw, da, len, j⟩ := h
    refine hs i x H H' ds (fun y H4 => ∃ acc, H4 D = some (.lst acc) ∧ acc.length < sizeLine ∧ ∃ (ws : List V) (ds : List PyData), Ext l c H1 (upd H4 D (.lst (acc ++ [y]))) ∧ (upd H4 D (.lst (acc ++ [y]))) D = some (.lst ws) ∧ DtAll K (upd H4 D (.lst (acc ++ [y]))) ws ds ∧ ds.length = i + 1 ∧ Jv ds) hi s y j len fun d y H4 s4 dy j4 => ?_
    have hw4 := s4.keep _ _ nD hw
    refine ⟨ws, hw4, smallL (by rw [da.lenD, len]; omega), ws ++ [y], ds ++ [d], (s.trans s4).upd P hD, upd_same, ?_, by rw [List.length_append, len]; rfl, j4⟩
    exact ((da.ext s.pool s4).append (.cons dy .nil)).upd hw4
  · obtain ⟨ws, ds, s, hw, da, len, j⟩ := h
    exact hd _ ws ds s hw da len j
end
end PK
namespace PK
open PySem L2
/-! terms, with the forms of results -/
inductive Fm where | get | set | plus | minus
deriving DecidableEq
def Fm.s : Fm → Str
  | .get => "get" | .set => "set" | .plus => "plus" | .minus => "minus"
inductive Tm where
  | int (n : Int)
  | name (s : Str)
  | addr (n : Int)
  | var (s : Str)
  | node (c : Str) (ts : List Tm)
  | map (es : List (Str × Tm))
  | form (f : Fm) (ts : List Tm)
mutual
def Tm.d : Tm → PyData
  | .int n => .tuple [.str "int", .int n]
  | .name s => .tuple [.str "name", .str s]
  | .addr n => .tuple [.str "addr", .int n]
  | .var s => .tuple [.str "meta", .str s]
  | .node c ts => .tuple [.str "node", .str c, .tuple (Tm.ds ts)]
  | .map es => .tuple [.str "map", .tuple (Tm.es es)]
  | .form f ts => .tuple (.str f.s :: Tm.ds ts)
def Tm.ds : List Tm → List PyData
  | [] => []
  | t :: r => t.d :: Tm.ds r
def Tm.es : List (Str × Tm) → List PyData
  | [] => []
  | (w, t) :: r => .tuple [.str w, t.d] :: Tm.es r
end
theorem Tm.ds_map : ∀ ts : List Tm, Tm.ds ts = ts.map Tm.d
  | [] => by unfold Tm.ds; rfl
  | t :: r => by unfold Tm.ds; rw [Tm.ds_map r]; rfl
def Tm.ent (e : Str × Tm) : PyData := .tuple [.str e.1, e.2.d]
theorem Tm.es_map : ∀ es : List (Str × Tm), Tm.es es = es.map Tm.ent
  | [] => by unfold Tm.es; rfl
  | (w, t) :: r => by unfold Tm.es; rw [Tm.es_map r]; rfl
def Tm.kids : Tm → List Tm
  | .node _ ts => ts
  | .form _ ts => ts
  | .map es => es.map Prod.snd
  | _ => []
def Tm.hd : Tm → Str
  | .int _ => "int" | .name _ => "name" | .addr _ => "addr" | .var _ => "meta" | .node _ _ => "node" | .map _ => "map" | .form f _ => f.s
theorem Tm.kid_lt {t k : Tm} (h : k ∈ t.kids) : sizeOf k < sizeOf t := by
  cases t with
  | node c ts => have := List.sizeOf_lt_of_mem (as := ts) h; simp only [Tm.node.sizeOf_spec]; omega
  | form c ts => have := List.sizeOf_lt_of_mem (as := ts) h; simp only [Tm.form.sizeOf_spec]; omega
  | map es =>
    obtain ⟨e, he, rfl⟩ := List.mem_map.mp h
    have := List.sizeOf_lt_of_mem he
    have e2 : sizeOf e = 1 + sizeOf e.1 + sizeOf e.2 := by cases e; rfl
    simp only [Tm.map.sizeOf_spec]
    omega
  | int _ => cases h
  | name _ => cases h
  | addr _ => cases h
  | var _ => cases h
/-- induction over the direct parts -/
theorem Tm.ind {p : Tm → Prop} (h : ∀ t : Tm, (∀ k ∈ t.kids, p k) → p t) (t : Tm) : p t := by
  have : ∀ n (t : Tm), sizeOf t ≤ n → p t := by
    intro n
    induction n with
    | zero => intro t ht; cases t <;> simp at ht
    | succ n ih => exact fun t ht => h t fun k hk => ih k (by have := Tm.kid_lt hk; omega)
  exact this _ t (Nat.le_refl _)
def Tm.size (t : Tm) : Nat := 1 + (t.kids.attach.map fun k => k.1.size).sum
termination_by sizeOf t
decreasing_by exact Tm.kid_lt k.2
theorem Tm.size_eq (t : Tm) : t.size = 1 + (t.kids.map Tm.size).sum := by
  rw [Tm.size, List.attach_map_val (f := Tm.size)]
/-- the first data of the tuple of a term -/
theorem Tm.d_hd (t : Tm) : ∃ r, t.d = .tuple (.str t.hd :: r) := by
  cases t <;> exact ⟨_, by unfold Tm.d; rfl⟩
def longI (n : Int) : Bool := decide (10 ^ 15 ≤ (if n < 0 then -n else n))
def Tm.long : Tm → Bool
  | .int n => longI n
  | _ => false
/-- too deep, or a long integer, in a term at a depth -/
def Tm.bad (t : Tm) (d : Nat) : Bool := decide (100 < d) || t.long || t.kids.attach.any fun k => k.1.bad (d + 1)
termination_by sizeOf t
decreasing_by exact Tm.kid_lt k.2
theorem any_attach {α : Type} (l : List α) (p : α → Bool) : (l.attach.any fun k => p k.1) = l.any p := by
  exact (List.any_map (l := l.attach) (f := Subtype.val) (p := p)).symm.trans (by rw [List.attach_map_subtype_val])
theorem Tm.bad_eq (t : Tm) (d : Nat) : t.bad d = (decide (100 < d) || t.long || t.kids.any fun k => k.bad (d + 1)) := by
  rw [Tm.bad, any_attach t.kids (fun k => k.bad (d + 1))]
/-- the kids as data -/
theorem Tm.dt_parts {K : PySem.W.Frag} {H : Hp} {v : V} {t : Tm} (h : Dt K H v t.d) : ∃ (a : Addr) (r : List V), v = .ref a ∧ SqT K H a (.str t.hd :: r) := by
  obtain ⟨r, e⟩ := t.d_hd
  rw [e] at h
  obtain ⟨a, xs, rfl, s, da⟩ := Dt.tn h
  cases da with
  | cons h1 r1 => rw [h1.s] at s; exact ⟨a, _, rfl, s⟩
structure TxtT (K : PySem.W.Frag) (mg : Str → Option Value) (aF : Addr) : Prop extends Txt K mg where
  g_FO : mg "_FORMS" = some (.ref aF)
  forms : ∀ H, SqT K H aF [.str "get", .str "set", .str "plus", .str "minus"]
def spKids (K : PySem.W.Frag) : Sp := fun vs H Q _ => ∃ (v : V) (t : Tm), vs = [v] ∧ Dt K H v t.d ∧ t.kids.length ≤ 10000000 ∧
  ∀ (H' : Hp) (p : Addr) (ws : List V), Same H H' → SqT K H' p ws → DtAll K H' ws (t.kids.map Tm.d) → Q (.ref p) H'
theorem Fm.ne_node (f : Fm) : f.s ≠ "node" := by cases f <;> decide +kernel
theorem Fm.ne_map (f : Fm) : f.s ≠ "map" := by cases f <;> decide +kernel
theorem Fm.inF (f : Fm) : inV (.str f.s) [V.str "get", V.str "set", V.str "plus", V.str "minus"] = true := by cases f <;> decide +kernel
section
variable {P : Program} {w : World} {K : PySem.W.Frag} {mg : Str → Option Value} {base : Heap} {aF : Addr}
abbrev s_children : Stmt := topS 13
theorem sc_children : FnScope ["term", "_", "entry"] ["term"] (defScope s_children) := ⟨rfl, rfl, rfl, by decide +kernel, rfl, by decide +kernel, by decide +kernel⟩
-- slots: 0:term 1:_(comp) 2:entry(comp)
theorem ok_kids {f : Addr} {fd : FuncData} (F : Fun K "children" "children" s_children f fd) (T : TxtT K mg aF) : FnOk P w K mg base CX0 1 f fd ["term"] (spKids K) := by
  refine F.ok sc_children (fun vs H Q E h => ?_) (fun cdv A outer s H vs Q E hr h => ?_)
  · obtain ⟨v, t, rfl, _⟩ := h
    rfl
  obtain ⟨v, t, rfl, hv, hn, q⟩ := h
  refine ⟨_, (pss_cons (ps_if (pt_cmpR op_eq (pe_ix ix_tup (pv 0) pe_int (fun _ _ => rfl)) pe_str (nomark _)) (pss_one (ps_ret (pe_ix ix_tup (pv 0) pe_int (fun _ _ => rfl)))) pss_nil)
    (pss_cons (ps_if (pt_cmpR op_eq (pe_ix ix_tup (pv 0) pe_int (fun _ _ => rfl)) pe_str (nomark _)) (pss_one (ps_ret (pe_callTy call_tuple_of (by rfl) T.z_tuple (by decide +kernel) (pa_cons (pe_lc (own := [("_", 1), ("entry", 2)]) (g := (gTup K 2 (gCons (gName 1) (gCons (gName 2) gNil)))) (tt := tYes) (by rfl) sc_children.nd (pi_tup (pe_ix ix_tup (pv 0) pe_int (fun _ _ => rfl))) (blkOk_by (N := ["term", "_", "entry"]) (sc := defScope s_children) (by decide +kernel)) (fun _ _ _ _ _ => (pg_tup (by rfl) (pgs_cons (pg_name (i := 1) sc_children.nd rfl (Or.inl rfl)) (pgs_cons (pg_name (i := 2) sc_children.nd rfl (Or.inl rfl)) pgs_nil)))) (fun _ _ _ _ _ => pts_nil) (fun _ _ _ _ _ => (pv 2))) pa_nil)))) pss_nil)
    (pss_cons (ps_if (pt_cmpR op_in_seq (pe_ix ix_tup (pv 0) pe_int (fun _ _ => rfl)) (pe_glob (v := .ref aF) rfl T.g_FO rfl) rfl) (pss_one (ps_ret (pe_slice sl_tup (pv 0) (po_some pe_int) po_none))) pss_nil)
    (pss_one (ps_ret (pe_tup pa_nil)))))), ?_⟩
  cases t with
  | node c ts =>
    unfold Tm.d at hv
    obtain ⟨a, x, y, z, rfl, hs, h1, h2, h3⟩ := Dt.t3 hv
    obtain rfl := h1.s
    obtain ⟨b, ys, rfl, hb, hys⟩ := Dt.tn h3
    refine vTx rfl hs rfl ⟨rfl, _, rfl, sT rfl (vTx rfl hs rfl ?_)⟩
    exact q H b ys (Same.refl H) hb (by rw [Tm.ds_map] at hys; exact hys)
  | map es =>
    unfold Tm.d at hv
    obtain ⟨a, x, y, rfl, hs, h1, h2⟩ := Dt.t2 hv
    obtain rfl := h1.s
    obtain ⟨b, ys, rfl, hb, hys⟩ := Dt.tn h2
    rw [Tm.es_map] at hys
    have ly : ys.length = es.length := by rw [hys.lenD, List.length_map]
    have hn' : es.length ≤ 10000000 := by rw [show (Tm.map es).kids = es.map Prod.snd from rfl, List.length_map] at hn; exact hn
    refine vTx rfl hs rfl ⟨rfl, _, rfl, sF (by decide +kernel) (vTx rfl hs rfl ⟨rfl, _, rfl, sT rfl ?_⟩)⟩
    refine vTx rfl hs rfl ⟨b, rfl, ⟨_, hb⟩, fun D hD => lcS (K := K) (walk_tup (xs := ys)) hD (by omega) (fun ds => ds = (es.take ds.length).map fun e => e.2.d) rfl (fun H' s => Same.seqT s hb) ?_ ?_⟩
    · rintro i x H1 H2 ds R hi s ⟨rfl, gx⟩ jd len r
      obtain ⟨e, ge, dx⟩ := DtAll.getX hys gx
      rw [List.getElem?_map] at ge
      cases e0 : es[i]? with
      | none => rw [e0] at ge; cases ge
      | some en =>
        rw [e0] at ge
        cases ge
        obtain ⟨a1, x1, y1, rfl, hs1, k1, k2⟩ := Dt.t2 (dx.same s)
        refine ⟨a1, _, rfl, hs1, rfl, _, _, rfl, _, _, rfl, rfl, rfl, _, rfl, r en.2.d y1 _ (Same.refl _) k2 ?_⟩
        rw [List.length_append, len, show i + [en.2.d].length = i + 1 from rfl, List.take_add_one, e0, List.map_append]
        rw [len] at jd
        rw [← jd]; rfl
    · rintro H' ws ds s hw da len jd
      rw [len, ly, List.take_length] at jd
      refine ⟨D, _, rfl, .inl ⟨SqL.of hw, fun p hp => ?_⟩⟩
      refine q _ p ws (Same.upd s ((Same.refl H).trans s |>.free hp)) (SqT.of upd_same) ?_
      rw [jd] at da
      rw [show (Tm.map es).kids.map Tm.d = es.map fun e => e.2.d from by unfold Tm.kids; rw [List.map_map]; rfl]
      exact da.same (same_new hp)
  | form g ts =>
    unfold Tm.d at hv
    obtain ⟨a, xs, rfl, hs, da⟩ := Dt.tn hv
    cases da with
    | cons h1 dr =>
    obtain rfl := h1.s
    rename_i vs1
    refine vTx rfl hs (atI_nat (j := 0) rfl) ⟨rfl, _, rfl, sF g.ne_node (vTx rfl hs (atI_nat (j := 0) rfl) ⟨rfl, _, rfl, sF g.ne_map (vTx (v := .str g.s) rfl hs (atI_nat (j := 0) rfl) ⟨aF, _, rfl, .inr (T.forms H), rfl, rfl, _, rfl, ?_⟩)⟩)⟩
    rw [if_neg Bool.false_ne_true, g.inF]
    refine iteT ⟨_, rfl, _, rfl, a, _, rfl, hs, fun z => ?_, fun p hp => ?_⟩
    · have e := z.1
      revert e
      show (HT.sIx (vs1.length + 1) 0 (some 1) = 0) → False
      unfold HT.sIx
      intro e
      simp at e
    · have ec : cutV (V.str g.s :: vs1) (some 1) none = vs1 := by
        unfold cutV HT.sIx
        simp
      rw [ec]
      refine q _ p vs1 (same_new hp) (SqT.of upd_same) ?_
      rw [Tm.ds_map] at dr
      exact dr.same (same_new hp)
  | int n =>
    unfold Tm.d at hv
    obtain ⟨a, x, y, rfl, hs, h1, h2⟩ := Dt.t2 hv
    obtain rfl := h1.s
    refine vTx rfl hs rfl ⟨rfl, _, rfl, sF (by decide +kernel) (vTx rfl hs rfl ⟨rfl, _, rfl, sF (by decide +kernel) (vTx (v := .str "int") rfl hs rfl ⟨aF, _, rfl, .inr (T.forms H), rfl, rfl, _, rfl, ?_⟩)⟩)⟩
    rw [if_neg Bool.false_ne_true, show inV (.str "int") [V.str "get", V.str "set", V.str "plus", V.str "minus"] = false by decide +kernel]
    exact iteF ⟨Nat.zero_le _, fun p hp => q _ p [] (same_new hp) (SqT.of upd_same) .nil⟩
  | name n =>
    unfold Tm.d at hv
    obtain ⟨a, x, y, rfl, hs, h1, h2⟩ := Dt.t2 hv
    obtain rfl := h1.s
    refine vTx rfl hs rfl ⟨rfl, _, rfl, sF (by decide +kernel) (vTx rfl hs rfl ⟨rfl, _, rfl, sF (by decide +kernel) (vTx (v := .str "name") rfl hs rfl ⟨aF, _, rfl, .inr (T.forms H), rfl, rfl, _, rfl, ?_⟩)⟩)⟩
    rw [if_neg Bool.false_ne_true, show inV (.str "name") [V.str "get", V.str "set", V.str "plus", V.str "minus"] = false by decide +kernel]
    exact iteF ⟨Nat.zero_le _, fun p hp => q _ p [] (same_new hp) (SqT.of upd_same) .nil⟩
  | addr n =>
    unfold Tm.d at hv
    obtain ⟨a, x, y, rfl, hs, h1, h2⟩ := Dt.t2 hv
    obtain rfl := h1.s
    refine vTx rfl hs rfl ⟨rfl, _, rfl, sF (by decide +kernel) (vTx rfl hs rfl ⟨rfl, _, rfl, sF (by decide +kernel) (vTx (v := .str "addr") rfl hs rfl ⟨aF, _, rfl, .inr (T.forms H), rfl, rfl, _, rfl, ?_⟩)⟩)⟩
    rw [if_neg Bool.false_ne_true, show inV (.str "addr") [V.str "get", V.str "set", V.str "plus", V.str "minus"] = false by decide +kernel]
    exact iteF ⟨Nat.zero_le _, fun p hp => q _ p [] (same_new hp) (SqT.of upd_same) .nil⟩
  | var n =>
    unfold Tm.d at hv
    obtain ⟨a, x, y, rfl, hs, h1, h2⟩ := Dt.t2 hv
    obtain rfl := h1.s
    refine vTx rfl hs rfl ⟨rfl, _, rfl, sF (by decide +kernel) (vTx rfl hs rfl ⟨rfl, _, rfl, sF (by decide +kernel) (vTx (v := .str "meta") rfl hs rfl ⟨aF, _, rfl, .inr (T.forms H), rfl, rfl, _, rfl, ?_⟩)⟩)⟩
    rw [if_neg Bool.false_ne_true, show inV (.str "meta") [V.str "get", V.str "set", V.str "plus", V.str "minus"] = false by decide +kernel]
    exact iteF ⟨Nat.zero_le _, fun p hp => q _ p [] (same_new hp) (SqT.of upd_same) .nil⟩
end
end PK
namespace PK
open PySem L2
/-! rebuild -/
structure TxtZ (K : PySem.W.Frag) (mg : Str → Option Value) (aF : Addr) : Prop extends TxtT K mg aF where
  z_zip : mg "zip" = none
  z_reversed : mg "reversed" = none
  z_dict : mg "dict" = none
  z_sum : mg "sum" = none
def Tm.withKids : Tm → List Tm → Tm
  | .node c _, ks => .node c ks
  | .map es, ks => .map (List.zipWith (fun e k => (e.1, k)) es ks)
  | .form f _, ks => .form f ks
  | t, _ => t
def spRebuild (K : PySem.W.Frag) : Sp := fun vs H Q _ => ∃ (v : V) (t : Tm) (a : Addr) (ws : List V) (ks : List Tm), vs = [v, .ref a] ∧ Dt K H v t.d ∧ SqL K H a ws ∧ DtAll K H ws (ks.map Tm.d) ∧ ks.length = t.kids.length ∧ ks.length ≤ 10000000 ∧
  ∀ (H' : Hp) (v' : V), Same H H' → Dt K H' v' (t.withKids ks).d → Q v' H'
section
variable {P : Program} {w : World} {K : PySem.W.Frag} {mg : Str → Option Value} {base : Heap} {aF : Addr}
abbrev s_rebuild : Stmt := topS 14
theorem sc_rebuild : FnScope ["term", "parts", "part", "word", "_"] ["term", "parts"] (defScope s_rebuild) := ⟨rfl, rfl, rfl, by decide +kernel, rfl, by decide +kernel, by decide +kernel⟩
-- slots: 0:term 1:parts 2:part(comp) 3:word(comp) 4:_(comp)
theorem ok_rebuild {f : Addr} {fd : FuncData} (F : Fun K "rebuild" "rebuild" s_rebuild f fd) (T : TxtZ K mg aF) : FnOk P w K mg base CX0 1 f fd ["term", "parts"] (spRebuild K) := by
  refine F.ok sc_rebuild (fun vs H Q E h => ?_) (fun cdv A outer s H vs Q E hr h => ?_)
  · obtain ⟨v, t, a, ws, ks, rfl, _⟩ := h
    rfl
  obtain ⟨v, t, a, ws, ks, rfl, hv, hS, da, lk, hn, q⟩ := h
  refine ⟨_, (pss_cons (ps_if (pt_cmpR op_eq (pe_ix ix_tup (pv 0) pe_int (fun _ _ => rfl)) pe_str (nomark _)) (pss_one (ps_ret (pe_tup (pa_cons pe_str (pa_cons (pe_ix ix_tup (pv 0) pe_int (fun _ _ => rfl)) (pa_cons (pe_callTy call_tuple_of (by rfl) T.z_tuple (by decide +kernel) (pa_cons (pv 1) pa_nil)) pa_nil)))))) pss_nil)
    (pss_cons (ps_if (pt_cmpR op_eq (pe_ix ix_tup (pv 0) pe_int (fun _ _ => rfl)) pe_str (nomark _)) (pss_one (ps_ret (pe_tup (pa_cons pe_str (pa_cons (pe_callTy call_tuple_of (by rfl) T.z_tuple (by decide +kernel) (pa_cons (pe_lc (own := [("part", 2), ("word", 3), ("_", 4)]) (g := (gTup K 2 (gCons (gTup K 2 (gCons (gName 3) (gCons (gName 4) gNil))) (gCons (gName 2) gNil)))) (tt := tYes) (by rfl) sc_rebuild.nd (PKZ.pi_zipP (by rfl) T.z_zip (pa_cons (pe_ix ix_tup (pv 0) pe_int (fun _ _ => rfl)) (pa_cons (pv 1) pa_nil))) (blkOk_by (N := ["term", "parts", "part", "word", "_"]) (sc := defScope s_rebuild) (by decide +kernel)) (fun _ _ _ _ _ => (pg_tup (by rfl) (pgs_cons (pg_tup (by rfl) (pgs_cons (pg_name (i := 3) sc_rebuild.nd rfl (Or.inl rfl)) (pgs_cons (pg_name (i := 4) sc_rebuild.nd rfl (Or.inl rfl)) pgs_nil))) (pgs_cons (pg_name (i := 2) sc_rebuild.nd rfl (Or.inl rfl)) pgs_nil)))) (fun _ _ _ _ _ => pts_nil) (fun _ _ _ _ _ => (pe_tup (pa_cons (pv 3) (pa_cons (pv 2) pa_nil))))) pa_nil)) pa_nil))))) pss_nil)
    (pss_cons (ps_if (pt_cmpR op_in_seq (pe_ix ix_tup (pv 0) pe_int (fun _ _ => rfl)) (pe_glob (v := .ref aF) rfl T.g_FO rfl) rfl) (pss_one (ps_ret (pe_tup (pa_cons (pe_ix ix_tup (pv 0) pe_int (fun _ _ => rfl)) (StX.pa_star (pv 1) pa_nil))))) pss_nil)
    (pss_one (ps_ret (pv 0)))))), ?_⟩
  have lw : ws.length = ks.length := by rw [da.lenD, List.length_map]
  cases t with
  | node c ts =>
    unfold Tm.d at hv
    obtain ⟨b, x, y, z, rfl, hs, h1, h2, h3⟩ := Dt.t3 hv
    obtain rfl := h1.s
    refine vTx rfl hs rfl ⟨rfl, _, rfl, sT rfl (vTx rfl hs rfl ?_)⟩
    refine ⟨_, rfl, a, ws, rfl, .inl ⟨hS, fun p hp => ⟨small (by show 3 ≤ _; decide), fun p2 hp2 => ?_⟩⟩⟩
    refine q _ _ ((same_new hp).trans (same_new hp2)) ?_
    show Dt K _ _ (Tm.node c ks).d
    unfold Tm.d
    rw [Tm.ds_map]
    exact Dt.mk3 hp2 (.str "node") (h2.new hp) (.tup (SqT.of upd_same) (da.same (same_new hp)))
  | map es =>
    unfold Tm.d at hv
    obtain ⟨b, x, y, rfl, hs, h1, h2⟩ := Dt.t2 hv
    obtain rfl := h1.s
    obtain ⟨b2, ys, rfl, hb, hys⟩ := Dt.tn h2
    rw [Tm.es_map] at hys
    have ly : ys.length = es.length := by rw [hys.lenD, List.length_map]
    have lk' : ks.length = es.length := by rw [lk]; unfold Tm.kids; rw [List.length_map]
    refine vTx rfl hs rfl ⟨rfl, _, rfl, sF (by decide +kernel) (vTx rfl hs rfl ⟨rfl, _, rfl, sT rfl ?_⟩)⟩
    refine vTx rfl hs rfl ⟨_, rfl, .t, .l, b2, a, ys, ws, rfl, hb, hS, fun D hD => lcS (K := K) (PKZ.walk_zipP (n := ws.length) (by omega)) hD (by omega) (fun ds => ds = (List.zipWith (fun (e : Str × Tm) (k : Tm) => Tm.ent (e.1, k)) (es.take ds.length) (ks.take ds.length))) rfl (fun H' s => ⟨Same.seqT s hb, s.seq hS⟩) ?_ ?_⟩
    · rintro i x H1 H2 ds R hi s ⟨U, x1, y1, rfl, hU, rfl, g1, g2⟩ jd len r
      obtain ⟨e, ge, dx⟩ := DtAll.getX hys g1
      obtain ⟨d2, gd, dy⟩ := DtAll.getX da g2
      rw [List.getElem?_map] at ge gd
      cases e0 : es[i]? with
      | none => rw [e0] at ge; cases ge
      | some en =>
      cases k0 : ks[i]? with
      | none => rw [k0] at gd; cases gd
      | some kn =>
        rw [e0] at ge
        rw [k0] at gd
        cases ge
        cases gd
        unfold Tm.ent at dx
        obtain ⟨a1, u1, w1, rfl, hs1, j1, j2⟩ := Dt.t2 (dx.same s)
        obtain rfl := j1.s
        refine ⟨U, _, rfl, SqT.of upd_same, rfl, _, _, rfl, ⟨a1, _, rfl, Same.seqT (same_new hU) hs1, rfl, _, _, rfl, _, _, rfl, rfl, _, _, rfl, rfl, rfl, _, rfl, _, rfl, small (by show 2 ≤ _; decide), fun p hp => r (Tm.ent (en.1, kn)) _ _ ((same_new hU).trans (same_new hp)) ?_ ?_⟩⟩
        · unfold Tm.ent
          exact Dt.mk2 hp (.str _) ((dy.same s).new hU)
        · rw [List.length_append, len, show i + [Tm.ent (en.1, kn)].length = i + 1 from rfl, List.take_add_one, List.take_add_one, e0, k0]
          rw [len] at jd
          rw [List.zipWith_append (by rw [List.length_take, List.length_take]; omega), ← jd]; rfl
    · rintro H' vs ds s hw dz len jd
      rw [len, lw, List.take_length, lk', List.take_length] at jd
      refine ⟨D, _, rfl, .inl ⟨SqL.of hw, fun p hp => ⟨small (by show 2 ≤ _; decide), fun p2 hp2 => ?_⟩⟩⟩
      refine q _ _ ((s.trans (same_new hp)).trans (same_new hp2)) ?_
      show Dt K _ _ (Tm.map (List.zipWith (fun e k => (e.1, k)) es ks)).d
      unfold Tm.d
      rw [Tm.es_map, List.map_zipWith]
      rw [jd] at dz
      exact Dt.mk2 hp2 (.str "map") (.tup (SqT.of upd_same) (dz.same (same_new hp)))
  | form g ts =>
    unfold Tm.d at hv
    obtain ⟨b, xs, rfl, hs, db⟩ := Dt.tn hv
    cases db with
    | cons h1 dr =>
    obtain rfl := h1.s
    rename_i vs1
    refine vTx rfl hs (atI_nat (j := 0) rfl) ⟨rfl, _, rfl, sF g.ne_node (vTx rfl hs (atI_nat (j := 0) rfl) ⟨rfl, _, rfl, sF g.ne_map (vTx (v := .str g.s) rfl hs (atI_nat (j := 0) rfl) ⟨aF, _, rfl, .inr (T.forms H), rfl, rfl, _, rfl, ?_⟩)⟩)⟩
    rw [if_neg Bool.false_ne_true, g.inF]
    refine iteT (vTx (v := .str g.s) rfl hs (atI_nat (j := 0) rfl) ⟨_, rfl, a, ws, rfl, .inr hS, ?_⟩)
    refine ⟨small (by rw [List.length_cons, List.append_nil, lw]; omega), fun p hp => q _ _ (same_new hp) ?_⟩
    show Dt K _ _ (Tm.form g ks).d
    unfold Tm.d
    rw [Tm.ds_map, List.append_nil]
    exact .tup (SqT.of upd_same) (.cons (.str _) (da.same (same_new hp)))
  | int n =>
    have hv0 := hv
    unfold Tm.d at hv
    obtain ⟨b, x, y, rfl, hs, h1, h2⟩ := Dt.t2 hv
    obtain rfl := h1.s
    refine vTx rfl hs rfl ⟨rfl, _, rfl, sF (by decide +kernel) (vTx rfl hs rfl ⟨rfl, _, rfl, sF (by decide +kernel) (vTx (v := .str "int") rfl hs rfl ⟨aF, _, rfl, .inr (T.forms H), rfl, rfl, _, rfl, ?_⟩)⟩)⟩
    rw [if_neg Bool.false_ne_true, show inV (.str "int") [V.str "get", V.str "set", V.str "plus", V.str "minus"] = false by decide +kernel]
    exact iteF ⟨_, rfl, q _ _ (Same.refl H) hv0⟩
  | name n =>
    have hv0 := hv
    unfold Tm.d at hv
    obtain ⟨b, x, y, rfl, hs, h1, h2⟩ := Dt.t2 hv
    obtain rfl := h1.s
    refine vTx rfl hs rfl ⟨rfl, _, rfl, sF (by decide +kernel) (vTx rfl hs rfl ⟨rfl, _, rfl, sF (by decide +kernel) (vTx (v := .str "name") rfl hs rfl ⟨aF, _, rfl, .inr (T.forms H), rfl, rfl, _, rfl, ?_⟩)⟩)⟩
    rw [if_neg Bool.false_ne_true, show inV (.str "name") [V.str "get", V.str "set", V.str "plus", V.str "minus"] = false by decide +kernel]
    exact iteF ⟨_, rfl, q _ _ (Same.refl H) hv0⟩
  | addr n =>
    have hv0 := hv
    unfold Tm.d at hv
    obtain ⟨b, x, y, rfl, hs, h1, h2⟩ := Dt.t2 hv
    obtain rfl := h1.s
    refine vTx rfl hs rfl ⟨rfl, _, rfl, sF (by decide +kernel) (vTx rfl hs rfl ⟨rfl, _, rfl, sF (by decide +kernel) (vTx (v := .str "addr") rfl hs rfl ⟨aF, _, rfl, .inr (T.forms H), rfl, rfl, _, rfl, ?_⟩)⟩)⟩
    rw [if_neg Bool.false_ne_true, show inV (.str "addr") [V.str "get", V.str "set", V.str "plus", V.str "minus"] = false by decide +kernel]
    exact iteF ⟨_, rfl, q _ _ (Same.refl H) hv0⟩
  | var n =>
    have hv0 := hv
    unfold Tm.d at hv
    obtain ⟨b, x, y, rfl, hs, h1, h2⟩ := Dt.t2 hv
    obtain rfl := h1.s
    refine vTx rfl hs rfl ⟨rfl, _, rfl, sF (by decide +kernel) (vTx rfl hs rfl ⟨rfl, _, rfl, sF (by decide +kernel) (vTx (v := .str "meta") rfl hs rfl ⟨aF, _, rfl, .inr (T.forms H), rfl, rfl, _, rfl, ?_⟩)⟩)⟩
    rw [if_neg Bool.false_ne_true, show inV (.str "meta") [V.str "get", V.str "set", V.str "plus", V.str "minus"] = false by decide +kernel]
    exact iteF ⟨_, rfl, q _ _ (Same.refl H) hv0⟩
end
end PK
namespace PK
open PySem L2
/-! assembled -/
def HdD (h : Tm × Nat) : PyData := .tuple [h.1.d, .int (h.2 : Nat)]
/-- what a row of heads makes, from its end: the terms that stand then, the last one first -/
inductive PreL : List Tm → List (Tm × Nat) → Prop
  | nil : PreL [] []
  | leaf {p : Tm} {rest : List Tm} {hs : List (Tm × Nat)} : PreL rest hs → PreL (p :: rest) ((p, 0) :: hs)
  | node {p : Tm} {ts rest : List Tm} {hs : List (Tm × Nat)} {n : Nat} : PreL (ts ++ rest) hs → ts.length = n → 0 < n → n = p.kids.length → PreL (p.withKids ts :: rest) ((p, n) :: hs)
theorem PreL.one : ∀ {hs : List (Tm × Nat)} {a b : List Tm}, PreL a hs → PreL b hs → a = b
  | [], _, _, .nil, .nil => rfl
  | (p, 0) :: hs, _, _, .leaf h, .leaf h' => by rw [PreL.one h h']
  | (p, 0) :: hs, _, _, .node _ _ h0 _, _ => absurd h0 (Nat.lt_irrefl _)
  | (p, 0) :: hs, _, _, _, .node _ _ h0 _ => absurd h0 (Nat.lt_irrefl _)
  | (p, n + 1) :: hs, _, _, .node h l _ _, .node h' l' _ _ => by
    obtain ⟨e1, e2⟩ := List.append_inj (PreL.one h h') (l.trans l'.symm)
    rw [e1, e2]
theorem PreL.len_le : ∀ {hs : List (Tm × Nat)} {a : List Tm}, PreL a hs → a.length ≤ hs.length
  | _, _, .nil => Nat.le_refl _
  | _, _, .leaf h => by rw [List.length_cons, List.length_cons]; have := h.len_le; omega
  | _, _, .node h l h0 _ => by rw [List.length_cons, List.length_cons]; have := h.len_le; rw [List.length_append] at this; omega
theorem PreL.drop : ∀ {hs : List (Tm × Nat)} {a : List Tm} (k : Nat), PreL a hs → ∃ b, PreL b (hs.drop k)
  | hs, a, 0, h => ⟨a, h⟩
  | _, _, k + 1, .nil => ⟨[], .nil⟩
  | _, _, k + 1, .leaf h => h.drop k
  | _, _, k + 1, .node h _ _ _ => h.drop k
def spAsm (K : PySem.W.Frag) : Sp := fun vs H Q _ => ∃ (a : Addr) (ws : List V) (hs : List (Tm × Nat)) (t : Tm), vs = [.ref a] ∧ SqL K H a ws ∧ DtAll K H ws (hs.map HdD) ∧ PreL [t] hs ∧ hs.length ≤ 1000000 ∧
  ∀ (H' : Hp) (v : V), Same H H' → Dt K H' v t.d → Q v H'
theorem DtAll.rev {K : PySem.W.Frag} {H : Hp} : ∀ {xs : List V} {ds : List PyData}, DtAll K H xs ds → DtAll K H xs.reverse ds.reverse
  | _, _, .nil => .nil
  | _, _, .cons h t => by
    rw [List.reverse_cons, List.reverse_cons]
    exact t.rev.append (.cons h .nil)
end PK
namespace PK
open PySem L2
/-! what filling and translating mean -/
/-- the last pair of a key -/
def lookA {α β : Type} [DecidableEq α] : List (α × β) → α → Option β
  | [], _ => none
  | (k, v) :: r, s => match lookA r s with | some t => some t | none => if k = s then some v else none
theorem lookA_map {α β γ : Type} [DecidableEq α] (f : β → γ) : ∀ (l : List (α × β)) (s : α), lookA (l.map fun p => (p.1, f p.2)) s = (lookA l s).map f
  | [], _ => rfl
  | (k, v) :: r, s => by
    rw [List.map_cons]
    unfold lookA
    rw [lookA_map f r s]
    cases lookA r s with
    | some t => rfl
    | none => by_cases e : k = s <;> simp [e]
theorem lookA_mem {α β : Type} [DecidableEq α] : ∀ {l : List (α × β)} {s : α} {t : β}, lookA l s = some t → (s, t) ∈ l
  | (k, v) :: r, s, t, h => by
    unfold lookA at h
    cases e : lookA r s with
    | some u =>
      rw [e] at h
      cases h
      exact .tail _ (lookA_mem e)
    | none =>
      rw [e] at h
      by_cases ek : k = s
      · subst ek; simp at h; subst h; exact .head _
      · simp [ek] at h
theorem lookA_has {α β : Type} [DecidableEq α] : ∀ {l : List (α × β)} {s : α}, s ∈ l.map Prod.fst → ∃ t, lookA l s = some t
  | (k, v) :: r, s, h => by
    unfold lookA
    cases e : lookA r s with
    | some u => exact ⟨u, rfl⟩
    | none =>
      rcases List.mem_cons.mp h with h | h
      · exact ⟨v, by simp [h]⟩
      · obtain ⟨t, e2⟩ := lookA_has h
        rw [e] at e2; cases e2
abbrev Tab := List (Str × Tm)
def Tm.filK (tab : Tab) (t : Tm) (ks : List Tm) : Tm := match t with
  | .var s => (lookA tab s).getD (.var s)
  | t => t.withKids ks
def Tm.fill (tab : Tab) (t : Tm) : Tm := t.filK tab (t.kids.attach.map fun k => k.1.fill tab)
termination_by sizeOf t
decreasing_by exact Tm.kid_lt k.2
theorem Tm.fill_eq (tab : Tab) (t : Tm) : t.fill tab = t.filK tab (t.kids.map (Tm.fill tab)) := by
  rw [Tm.fill, List.attach_map_val (f := Tm.fill tab)]
structure Rw where
  nm : Str
  ps : List Str
  t : Tm
def Rw.d (r : Rw) : PyData := .tuple [.str r.nm, .tuple (r.ps.map .str), r.t.d]
def rowOf (R : List Rw) (c : Str) : Option Rw := R.find? fun r => decide (r.nm = c)
theorem rowOf_mem {R : List Rw} (hn : (R.map Rw.nm).Nodup) {r : Rw} (h : r ∈ R) : rowOf R r.nm = some r := by
  unfold rowOf
  induction R with
  | nil => cases h
  | cons x R ih =>
    rw [List.map_cons, List.nodup_cons] at hn
    rcases List.mem_cons.mp h with rfl | h
    · rw [List.find?_cons_of_pos (by simp)]
    · have : ¬ x.nm = r.nm := fun e => hn.1 (by rw [e]; exact List.mem_map.mpr ⟨r, h, rfl⟩)
      rw [List.find?_cons_of_neg (by simp [this]), ih hn.2 h]
def Tm.trK (R : List Rw) (t : Tm) (ks : List Tm) : Tm := match t with
  | .node c ts => (match rowOf R c with | some r => r.t.fill (r.ps.zip ks) | none => .node c ks)
  | t => t.withKids ks
def Tm.trans (R : List Rw) (t : Tm) : Tm := t.trK R (t.kids.attach.map fun k => k.1.trans R)
termination_by sizeOf t
decreasing_by exact Tm.kid_lt k.2
theorem Tm.trans_eq (R : List Rw) (t : Tm) : t.trans R = t.trK R (t.kids.map (Tm.trans R)) := by
  rw [Tm.trans, List.attach_map_val (f := Tm.trans R)]
def trTab (R : List Rw) (tab : Tab) : Tab := tab.map fun p => (p.1, p.2.trans R)
theorem trTab_zip (R : List Rw) : ∀ (ps : List Str) (ts : List Tm), trTab R (ps.zip ts) = ps.zip (ts.map (Tm.trans R))
  | [], _ => rfl
  | _ :: _, [] => rfl
  | p :: ps, t :: ts => by
    rw [List.zip_cons_cons, List.map_cons, List.zip_cons_cons, ← trTab_zip R ps ts]; rfl
/-! height, parts -/
def Tm.ht (t : Tm) : Nat := 1 + (t.kids.attach.map fun k => k.1.ht).foldr max 0
termination_by sizeOf t
decreasing_by exact Tm.kid_lt k.2
theorem Tm.ht_eq (t : Tm) : t.ht = 1 + (t.kids.map Tm.ht).foldr max 0 := by
  rw [Tm.ht, List.attach_map_val (f := Tm.ht)]
theorem fmax_le {n : Nat} : ∀ {l : List Nat}, (∀ x ∈ l, x ≤ n) → l.foldr max 0 ≤ n
  | [], _ => Nat.zero_le _
  | x :: l, h => by
    have h1 := h x List.mem_cons_self
    have h2 := fmax_le (n := n) (l := l) fun y hy => h y (List.mem_cons_of_mem _ hy)
    rw [List.foldr_cons]
    omega
theorem le_fmax : ∀ {l : List Nat} {x : Nat}, x ∈ l → x ≤ l.foldr max 0
  | y :: l, x, h => by
    rw [List.foldr_cons]
    rcases List.mem_cons.mp h with rfl | h
    · omega
    · have := le_fmax h; omega
theorem Tm.ht_kid {t k : Tm} (h : k ∈ t.kids) : k.ht + 1 ≤ t.ht := by
  have := le_fmax (List.mem_map.mpr ⟨k, h, rfl⟩ : k.ht ∈ t.kids.map Tm.ht)
  rw [Tm.ht_eq t]; omega
theorem Tm.ht_le {t : Tm} {n : Nat} (h : ∀ k ∈ t.kids, k.ht ≤ n) : t.ht ≤ n + 1 := by
  rw [Tm.ht_eq t]
  have := fmax_le (n := n) (l := t.kids.map Tm.ht) fun x hx => by
    obtain ⟨k, hk, rfl⟩ := List.mem_map.mp hx
    exact h k hk
  omega
theorem Tm.ht_pos (t : Tm) : 1 ≤ t.ht := by rw [Tm.ht_eq t]; omega
theorem zip_snd : ∀ {es : List (Str × Tm)} {ks : List Tm}, ks.length = es.length → List.zipWith (fun (e : Str × Tm) (k : Tm) => (Prod.snd ((e.1, k) : Str × Tm))) es ks = ks
  | [], [], _ => rfl
  | [], _ :: _, h => nomatch h
  | _ :: _, [], h => nomatch h
  | e :: es, k :: ks, h => by rw [List.zipWith_cons_cons, zip_snd (Nat.succ.inj h)]
theorem Tm.kids_with {t : Tm} {ks : List Tm} (h : ks.length = t.kids.length) : (t.withKids ks).kids = ks := by
  cases t with
  | node c ts => rfl
  | form c ts => rfl
  | map es =>
    have h : ks.length = es.length := by
      have : (Tm.map es).kids.length = es.length := List.length_map ..
      rw [this] at h; exact h
    show (List.zipWith (fun e k => (e.1, k)) es ks).map Prod.snd = ks
    rw [List.map_zipWith]
    exact zip_snd h
  | int _ => exact (List.length_eq_zero_iff.mp h).symm
  | name _ => exact (List.length_eq_zero_iff.mp h).symm
  | addr _ => exact (List.length_eq_zero_iff.mp h).symm
  | var _ => exact (List.length_eq_zero_iff.mp h).symm
theorem Tm.with_nil {t : Tm} (h : t.kids = []) : t.withKids [] = t := by
  cases t with
  | node c ts => have h : ts = [] := h; rw [h]; rfl
  | form c ts => have h : ts = [] := h; rw [h]; rfl
  | map es =>
    have : es = [] := List.map_eq_nil_iff.mp h
    rw [this]; rfl
  | _ => rfl
theorem Tm.size_pos (t : Tm) : 1 ≤ t.size := by rw [Tm.size_eq t]; omega
/-- a property of all parts -/
inductive Al (p : Tm → Prop) : Tm → Prop
  | mk {t : Tm} : p t → (∀ k ∈ t.kids, Al p k) → Al p t
theorem Al.at_ {p : Tm → Prop} {t : Tm} (h : Al p t) : p t := by cases h; assumption
theorem Al.kid {p : Tm → Prop} {t k : Tm} (h : Al p t) (hk : k ∈ t.kids) : Al p k := by cases h with | mk _ h => exact h k hk
def okN (R : List Rw) (t : Tm) : Prop := t.kids.length ≤ 1000 ∧ ∀ c ts, t = .node c ts → ∃ r ∈ R, r.nm = c ∧ r.ps.length = ts.length
def okT (R : List Rw) : Tm → Prop := Al (okN R)
def okP (ps : List Str) : Tm → Prop := Al fun t => t.kids.length ≤ 1000 ∧ ∀ s, t = .var s → s ∈ ps
structure okR (R : List Rw) : Prop where
  nd : (R.map Rw.nm).Nodup
  len : R.length ≤ 1000
  ar : ∀ r ∈ R, r.ps.length ≤ 1000
  p : ∀ r ∈ R, okP r.ps r.t
  node : ∀ r ∈ R, ∃ c ts, r.t = .node c ts
/-- what waits to be translated -/
structure Itm where
  part : Tm
  b : Option Tab
  dep : Nat
def Itm.f (R : List Rw) (it : Itm) (t : Tm) : Tm := match it.b with
  | none => t.trans R
  | some tab => t.fill (trTab R tab)
def Itm.res (R : List Rw) (it : Itm) : Tm := it.f R it.part
def Itm.ok (R : List Rw) (it : Itm) : Prop := match it.b with
  | none => okT R it.part
  | some tab => okP (tab.map Prod.fst) it.part ∧ (∀ p ∈ tab, okT R p.2)
/-- a metavariable that stands for something -/
def Itm.s1 (it : Itm) : Itm := match it.b, it.part with
  | some tab, .var s => (match lookA tab s with | some t => ⟨t, none, it.dep⟩ | none => it)
  | _, _ => it
theorem Itm.s1_dep (it : Itm) : it.s1.dep = it.dep := by
  unfold Itm.s1
  split
  · split <;> rfl
  · rfl
theorem Itm.s1_res {R : List Rw} (it : Itm) : it.s1.res R = it.res R := by
  obtain ⟨part, b, dep⟩ := it
  unfold Itm.s1
  dsimp only
  split
  · rename_i tab s
    cases e : lookA tab s with
    | none => rfl
    | some t =>
      show t.trans R = (Tm.var s).fill (trTab R tab)
      rw [Tm.fill_eq]
      show _ = (lookA (trTab R tab) s).getD (.var s)
      unfold trTab
      rw [lookA_map, e]; rfl
  · rfl
theorem Itm.s1_ok {R : List Rw} {it : Itm} (h : it.ok R) : it.s1.ok R := by
  obtain ⟨part, b, dep⟩ := it
  unfold Itm.s1
  dsimp only
  split
  · rename_i tab s
    cases e : lookA tab s with
    | none => exact h
    | some t => exact h.2 (s, t) (lookA_mem e)
  · exact h
theorem Itm.s1_var {R : List Rw} {it : Itm} (h : it.ok R) : it.s1.b ≠ none → ∀ s, it.s1.part ≠ .var s := by
  obtain ⟨part, b, dep⟩ := it
  unfold Itm.s1
  dsimp only
  split
  · rename_i tab s
    obtain ⟨t, e⟩ := lookA_has (h.1.at_.2 s rfl)
    rw [e]
    exact fun h => absurd rfl h
  · rename_i hx
    intro hb s e
    dsimp only at hb e
    cases b with
    | none => exact hb rfl
    | some tab => exact hx tab s rfl e
/-- a node of the source -/
def Itm.s2 (R : List Rw) (it : Itm) : Itm := match it.b, it.part with
  | none, .node c ts => (match rowOf R c with | some r => ⟨r.t, some (r.ps.zip ts), it.dep⟩ | none => it)
  | _, _ => it
theorem Itm.s2_dep {R : List Rw} (it : Itm) : (it.s2 R).dep = it.dep := by
  unfold Itm.s2
  split
  · split <;> rfl
  · rfl
theorem Itm.s2_res {R : List Rw} (it : Itm) : (it.s2 R).res R = it.res R := by
  obtain ⟨part, b, dep⟩ := it
  unfold Itm.s2
  dsimp only
  split
  · rename_i c ts
    cases e : rowOf R c with
    | none => rfl
    | some r =>
      show r.t.fill (trTab R (r.ps.zip ts)) = (Tm.node c ts).trans R
      rw [Tm.trans_eq, trTab_zip]
      unfold Tm.trK
      dsimp only
      rw [e]; rfl
  · rfl
theorem Itm.s2_ok {R : List Rw} (O : okR R) {it : Itm} (h : it.ok R) : (it.s2 R).ok R := by
  obtain ⟨part, b, dep⟩ := it
  unfold Itm.s2
  dsimp only
  split
  · rename_i c ts
    obtain ⟨r, hr, rfl, hl⟩ := (show okT R (.node c ts) from h).at_.2 c ts rfl
    rw [rowOf_mem O.nd hr]
    refine ⟨?_, fun p hp => ?_⟩
    · rw [List.map_fst_zip (by omega)]; exact O.p r hr
    · exact (show okT R (.node r.nm ts) from h).kid (List.of_mem_zip hp).2
  · exact h
/-- what both steps lead to -/
structure Itm.can (R : List Rw) (it : Itm) : Prop where
  ok : it.ok R
  v : it.b ≠ none → ∀ s, it.part ≠ .var s
  n : it.b = none → ∀ c ts, it.part ≠ .node c ts
theorem Itm.s2_can {R : List Rw} (O : okR R) {it : Itm} (h : it.ok R) (hv : it.b ≠ none → ∀ s, it.part ≠ .var s) : (it.s2 R).can R := by
  refine ⟨Itm.s2_ok O h, ?_, ?_⟩
  · obtain ⟨part, b, dep⟩ := it
    unfold Itm.s2
    dsimp only
    split
    · rename_i c ts
      obtain ⟨r, hr, rfl, hl⟩ := (show okT R (.node c ts) from h).at_.2 c ts rfl
      rw [rowOf_mem O.nd hr]
      obtain ⟨c', ts', e⟩ := O.node r hr
      intro _ s e2
      rw [show r.t = Tm.var s from e2] at e
      cases e
    · exact hv
  · obtain ⟨part, b, dep⟩ := it
    unfold Itm.s2
    dsimp only
    split
    · rename_i c ts
      obtain ⟨r, hr, rfl, hl⟩ := (show okT R (.node c ts) from h).at_.2 c ts rfl
      rw [rowOf_mem O.nd hr]
      intro e; cases e
    · rename_i hx
      intro hb c ts e
      exact hx c ts hb e
theorem Itm.can_len {R : List Rw} {it : Itm} (h : it.can R) : it.part.kids.length ≤ 1000 := by
  obtain ⟨part, b, dep⟩ := it
  cases b with
  | none => exact (show okT R part from h.ok).at_.1
  | some tab => exact (h.ok.1).at_.1
theorem Itm.can_kid {R : List Rw} {it : Itm} (h : it.can R) {k : Tm} (hk : k ∈ it.part.kids) : (Itm.mk k it.b (it.dep + 1)).ok R := by
  obtain ⟨part, b, dep⟩ := it
  cases b with
  | none => exact (show okT R part from h.ok).kid hk
  | some tab => exact ⟨h.ok.1.kid hk, h.ok.2⟩
theorem Itm.can_res {R : List Rw} {it : Itm} (h : it.can R) : it.res R = it.part.withKids (it.part.kids.map (it.f R)) := by
  obtain ⟨part, b, dep⟩ := it
  cases b with
  | none =>
    show part.trans R = part.withKids (part.kids.map (Tm.trans R))
    rw [Tm.trans_eq]
    cases part with
    | node c ts => exact absurd rfl (h.n rfl c ts)
    | _ => rfl
  | some tab =>
    show part.fill (trTab R tab) = part.withKids (part.kids.map (Tm.fill (trTab R tab)))
    rw [Tm.fill_eq]
    cases part with
    | var s => exact absurd rfl (h.v (by simp) s)
    | _ => rfl
theorem Itm.can_size {R : List Rw} {it : Itm} (h : it.can R) : (it.res R).size = 1 + ((it.part.kids.map (it.f R)).map Tm.size).sum := by
  rw [it.can_res h, Tm.size_eq, Tm.kids_with (by rw [List.length_map])]
theorem Itm.can_ht {R : List Rw} {it : Itm} (h : it.can R) {k : Tm} (hk : k ∈ it.part.kids) : (it.f R k).ht + 1 ≤ (it.res R).ht := by
  refine Tm.ht_kid ?_
  rw [it.can_res h, Tm.kids_with (by rw [List.length_map])]
  exact List.mem_map.mpr ⟨k, hk, rfl⟩
/-- one head more -/
theorem Itm.can_pre {R : List Rw} {it : Itm} (h : it.can R) {rest : List Tm} {hs : List (Tm × Nat)} (p : PreL (it.part.kids.map (it.f R) ++ rest) hs) : PreL (it.res R :: rest) ((it.part, it.part.kids.length) :: hs) := by
  rw [it.can_res h]
  by_cases e : it.part.kids = []
  · rw [e] at p ⊢
    rw [List.map_nil] at p ⊢
    rw [Tm.with_nil e]
    exact .leaf p
  · exact .node p (by rw [List.length_map]) (List.length_pos_iff.mpr e) rfl
def totI (R : List Rw) (its : List Itm) : Nat := (its.map fun i => (i.res R).size).sum
end PK
namespace PK
open PySem L2
/-! children, told in a view that is smaller than the heap -/
section
variable {K : PySem.W.Frag} {It : It} {n : Nat} {G : Hp → Prop} {Y : Nat → Hp → V → Hp → Prop}
/-- a comprehension whose items are data in a view that stands fixed -/
theorem lcV (wk : Walk It n G Y) {g : TG} {te : TE} {vs : List Nat} {σ : L2.St} {H1 Hv : Hp} {D : Addr} {Qd : Hp → Prop} (hD : H1 D = none) (hn : n ≤ 10000000) (ds : List PyData) (hl : ds.length = n) (hG : ∀ H', Same H1 H' → G H')
    (hs : ∀ i x H H' d (R : V → Hp → Prop), ds[i]? = some d → Same H1 H → Y i H x H' → (∀ y H4, Same H H4 → Dt K Hv y d → R y H4) → g x (wipe σ vs) H' fun σ2 H2 => wipe σ2 vs = wipe σ vs ∧ te σ2 H2 R)
    (hd : ∀ H' ws, Same H1 H' → H' D = some (.lst ws) → DtAll K Hv ws ds → Qd H') :
    ∃ W : Nat → Nat → Hp → Prop, (∃ m, W 0 m (upd H1 D (.lst []))) ∧ ∀ i m H, W i m H →
      (It.stop i H ∧ Qd H) ∨ (It.go i H ∧ ∃ Nx : Hp → Prop, (∀ H', Nx H' → ∃ m', m' < m ∧ W (i + 1) m' H') ∧ ∀ x H', It.yld i H x H' → g x (wipe σ vs) H' fun σ2 H2 => wipe σ2 vs = wipe σ vs ∧ tYes σ2 H2 fun b H3 =>
        if b = true then te σ2 H3 fun y H4 => ∃ acc, H4 D = some (.lst acc) ∧ acc.length < sizeLine ∧ Nx (upd H4 D (.lst (acc ++ [y]))) else Nx H3) := by
  refine lc_it wk (fun i H' => i ≤ n ∧ ∃ ws : List V, Same H1 H' ∧ H' D = some (.lst ws) ∧ DtAll K Hv ws (ds.take i)) ⟨Nat.zero_le _, [], same_new hD, upd_same, .nil⟩ (fun i H' _ h => ?_) (fun i x H H' hi h y => ?_) (fun H' h => ?_)
  · obtain ⟨_, _, s, _⟩ := h
    exact hG _ s
  · obtain ⟨_, ws, s, hw, da⟩ := h
    have hid : ds[i]? = some ds[i] := List.getElem?_eq_getElem (by omega)
    refine hs i x H H' ds[i] _ hid s y fun z H4 s4 dz => ?_
    have hw4 := s4 _ _ hw
    have lw : ws.length = i := by rw [da.lenD, List.length_take]; omega
    refine ⟨ws, hw4, smallL (by omega), hi, ws ++ [z], Same.upd (s.trans s4) hD, upd_same, ?_⟩
    rw [List.take_add_one, hid]
    exact da.append (.cons dz .nil)
  · obtain ⟨_, ws, s, hw, da⟩ := h
    rw [List.take_of_length_le (by omega)] at da
    exact hd _ ws s hw da
end
def spKidsV (K : PySem.W.Frag) : Sp := fun vs H Q _ => ∃ (v : V) (t : Tm) (Hv : Hp), vs = [v] ∧ (∀ a xs, SqT K Hv a xs → SqT K H a xs) ∧ Dt K Hv v t.d ∧ t.kids.length ≤ 10000000 ∧
  ∀ (H' : Hp) (p : Addr) (ws : List V), Same H H' → SqT K H' p ws → DtAll K Hv ws (t.kids.map Tm.d) → Q (.ref p) H'
section
variable {P : Program} {w : World} {K : PySem.W.Frag} {mg : Str → Option Value} {base : Heap} {aF : Addr}
theorem ok_kidsV {f : Addr} {fd : FuncData} (F : Fun K "children" "children" s_children f fd) (T : TxtT K mg aF) : FnOk P w K mg base CX0 1 f fd ["term"] (spKidsV K) := by
  refine F.ok sc_children (fun vs H Q E h => ?_) (fun cdv A outer s H vs Q E hr h => ?_)
  · obtain ⟨v, t, _, rfl, _⟩ := h
    rfl
  obtain ⟨v, t, Hv, rfl, up, hv, hn, q⟩ := h
  refine ⟨_, (pss_cons (ps_if (pt_cmpR op_eq (pe_ix ix_tup (pv 0) pe_int (fun _ _ => rfl)) pe_str (nomark _)) (pss_one (ps_ret (pe_ix ix_tup (pv 0) pe_int (fun _ _ => rfl)))) pss_nil)
    (pss_cons (ps_if (pt_cmpR op_eq (pe_ix ix_tup (pv 0) pe_int (fun _ _ => rfl)) pe_str (nomark _)) (pss_one (ps_ret (pe_callTy call_tuple_of (by rfl) T.z_tuple (by decide +kernel) (pa_cons (pe_lc (own := [("_", 1), ("entry", 2)]) (g := (gTup K 2 (gCons (gName 1) (gCons (gName 2) gNil)))) (tt := tYes) (by rfl) sc_children.nd (pi_tup (pe_ix ix_tup (pv 0) pe_int (fun _ _ => rfl))) (blkOk_by (N := ["term", "_", "entry"]) (sc := defScope s_children) (by decide +kernel)) (fun _ _ _ _ _ => (pg_tup (by rfl) (pgs_cons (pg_name (i := 1) sc_children.nd rfl (Or.inl rfl)) (pgs_cons (pg_name (i := 2) sc_children.nd rfl (Or.inl rfl)) pgs_nil)))) (fun _ _ _ _ _ => pts_nil) (fun _ _ _ _ _ => (pv 2))) pa_nil)))) pss_nil)
    (pss_cons (ps_if (pt_cmpR op_in_seq (pe_ix ix_tup (pv 0) pe_int (fun _ _ => rfl)) (pe_glob (v := .ref aF) rfl T.g_FO rfl) rfl) (pss_one (ps_ret (pe_slice sl_tup (pv 0) (po_some pe_int) po_none))) pss_nil)
    (pss_one (ps_ret (pe_tup pa_nil)))))), ?_⟩
  cases t with
  | node c ts =>
    unfold Tm.d at hv
    obtain ⟨a, x, y, z, rfl, hs, h1, h2, h3⟩ := Dt.t3 hv
    obtain rfl := h1.s
    obtain ⟨b, ys, rfl, hb, hys⟩ := Dt.tn h3
    refine vTx rfl (up _ _ hs) rfl ⟨rfl, _, rfl, sT rfl (vTx rfl (up _ _ hs) rfl ?_)⟩
    exact q H b ys (Same.refl H) (up _ _ hb) (by rw [Tm.ds_map] at hys; exact hys)
  | map es =>
    unfold Tm.d at hv
    obtain ⟨a, x, y, rfl, hs, h1, h2⟩ := Dt.t2 hv
    obtain rfl := h1.s
    obtain ⟨b, ys, rfl, hb, hys⟩ := Dt.tn h2
    rw [Tm.es_map] at hys
    have ly : ys.length = es.length := by rw [hys.lenD, List.length_map]
    have hn' : es.length ≤ 10000000 := by rw [show (Tm.map es).kids = es.map Prod.snd from rfl, List.length_map] at hn; exact hn
    refine vTx rfl (up _ _ hs) rfl ⟨rfl, _, rfl, sF (by decide +kernel) (vTx rfl (up _ _ hs) rfl ⟨rfl, _, rfl, sT rfl ?_⟩)⟩
    refine vTx rfl (up _ _ hs) rfl ⟨b, rfl, ⟨_, up _ _ hb⟩, fun D hD => lcV (K := K) (Hv := Hv) (walk_tup (xs := ys)) hD (by omega) (es.map fun e => e.2.d) (by rw [List.length_map, ly]) (fun H' s => Same.seqT s (up _ _ hb)) ?_ ?_⟩
    · rintro i x H1 H2 d R hi s ⟨rfl, gx⟩ r
      obtain ⟨e, ge, dx⟩ := DtAll.getX hys gx
      rw [List.getElem?_map] at ge hi
      cases e0 : es[i]? with
      | none => rw [e0] at ge; cases ge
      | some en =>
        rw [e0] at ge hi
        cases ge
        cases hi
        obtain ⟨a1, x1, y1, rfl, hs1, k1, k2⟩ := Dt.t2 dx
        exact ⟨a1, _, rfl, Same.seqT s (up _ _ hs1), rfl, _, _, rfl, _, _, rfl, rfl, rfl, _, rfl, r y1 _ (Same.refl _) k2⟩
    · rintro H' ws s hw da
      refine ⟨D, _, rfl, .inl ⟨SqL.of hw, fun p hp => ?_⟩⟩
      refine q _ p ws (Same.upd s ((Same.refl H).trans s |>.free hp)) (SqT.of upd_same) ?_
      rw [show (Tm.map es).kids.map Tm.d = es.map fun e => e.2.d from by unfold Tm.kids; rw [List.map_map]; rfl]
      exact da
  | form g ts =>
    unfold Tm.d at hv
    obtain ⟨a, xs, rfl, hs, da⟩ := Dt.tn hv
    cases da with
    | cons h1 dr =>
    obtain rfl := h1.s
    rename_i vs1
    have hs := up _ _ hs
    refine vTx rfl hs (atI_nat (j := 0) rfl) ⟨rfl, _, rfl, sF g.ne_node (vTx rfl hs (atI_nat (j := 0) rfl) ⟨rfl, _, rfl, sF g.ne_map (vTx (v := .str g.s) rfl hs (atI_nat (j := 0) rfl) ⟨aF, _, rfl, .inr (T.forms H), rfl, rfl, _, rfl, ?_⟩)⟩)⟩
    rw [if_neg Bool.false_ne_true, g.inF]
    refine iteT ⟨_, rfl, _, rfl, a, _, rfl, hs, fun z => ?_, fun p hp => ?_⟩
    · have e := z.1
      revert e
      show (HT.sIx (vs1.length + 1) 0 (some 1) = 0) → False
      unfold HT.sIx
      intro e
      simp at e
    · have ec : cutV (V.str g.s :: vs1) (some 1) none = vs1 := by
        unfold cutV HT.sIx
        simp
      rw [ec]
      refine q _ p vs1 (same_new hp) (SqT.of upd_same) ?_
      rw [Tm.ds_map] at dr
      exact dr
  | int n =>
    unfold Tm.d at hv
    obtain ⟨a, x, y, rfl, hs, h1, h2⟩ := Dt.t2 hv
    obtain rfl := h1.s
    refine vTx rfl (up _ _ hs) rfl ⟨rfl, _, rfl, sF (by decide +kernel) (vTx rfl (up _ _ hs) rfl ⟨rfl, _, rfl, sF (by decide +kernel) (vTx (v := .str "int") rfl (up _ _ hs) rfl ⟨aF, _, rfl, .inr (T.forms H), rfl, rfl, _, rfl, ?_⟩)⟩)⟩
    rw [if_neg Bool.false_ne_true, show inV (.str "int") [V.str "get", V.str "set", V.str "plus", V.str "minus"] = false by decide +kernel]
    exact iteF ⟨Nat.zero_le _, fun p hp => q _ p [] (same_new hp) (SqT.of upd_same) .nil⟩
  | name n =>
    unfold Tm.d at hv
    obtain ⟨a, x, y, rfl, hs, h1, h2⟩ := Dt.t2 hv
    obtain rfl := h1.s
    refine vTx rfl (up _ _ hs) rfl ⟨rfl, _, rfl, sF (by decide +kernel) (vTx rfl (up _ _ hs) rfl ⟨rfl, _, rfl, sF (by decide +kernel) (vTx (v := .str "name") rfl (up _ _ hs) rfl ⟨aF, _, rfl, .inr (T.forms H), rfl, rfl, _, rfl, ?_⟩)⟩)⟩
    rw [if_neg Bool.false_ne_true, show inV (.str "name") [V.str "get", V.str "set", V.str "plus", V.str "minus"] = false by decide +kernel]
    exact iteF ⟨Nat.zero_le _, fun p hp => q _ p [] (same_new hp) (SqT.of upd_same) .nil⟩
  | addr n =>
    unfold Tm.d at hv
    obtain ⟨a, x, y, rfl, hs, h1, h2⟩ := Dt.t2 hv
    obtain rfl := h1.s
    refine vTx rfl (up _ _ hs) rfl ⟨rfl, _, rfl, sF (by decide +kernel) (vTx rfl (up _ _ hs) rfl ⟨rfl, _, rfl, sF (by decide +kernel) (vTx (v := .str "addr") rfl (up _ _ hs) rfl ⟨aF, _, rfl, .inr (T.forms H), rfl, rfl, _, rfl, ?_⟩)⟩)⟩
    rw [if_neg Bool.false_ne_true, show inV (.str "addr") [V.str "get", V.str "set", V.str "plus", V.str "minus"] = false by decide +kernel]
    exact iteF ⟨Nat.zero_le _, fun p hp => q _ p [] (same_new hp) (SqT.of upd_same) .nil⟩
  | var n =>
    unfold Tm.d at hv
    obtain ⟨a, x, y, rfl, hs, h1, h2⟩ := Dt.t2 hv
    obtain rfl := h1.s
    refine vTx rfl (up _ _ hs) rfl ⟨rfl, _, rfl, sF (by decide +kernel) (vTx rfl (up _ _ hs) rfl ⟨rfl, _, rfl, sF (by decide +kernel) (vTx (v := .str "meta") rfl (up _ _ hs) rfl ⟨aF, _, rfl, .inr (T.forms H), rfl, rfl, _, rfl, ?_⟩)⟩)⟩
    rw [if_neg Bool.false_ne_true, show inV (.str "meta") [V.str "get", V.str "set", V.str "plus", V.str "minus"] = false by decide +kernel]
    exact iteF ⟨Nat.zero_le _, fun p hp => q _ p [] (same_new hp) (SqT.of upd_same) .nil⟩
theorem kids_of {n : Nat} (C : C8.Cal P w K mg base n "children" (spKidsV K) []) : C8.Cal P w K mg base n "children" (spKids K) [] := by
  obtain ⟨f, fd, ps, ds, F, r⟩ := C
  refine ⟨f, fd, ps, ds, F.imp fun vs H Q E h => ?_, r⟩
  obtain ⟨v, t, e, hv, hl, q⟩ := h
  exact ⟨v, t, H, e, fun _ _ z => z, hv, hl, fun H' p ws s hs da => q H' p ws s hs (da.same s)⟩
end
end PK
namespace PK
open PySem L2 GenF GenW PyProof.Rows
/-! parts_of: a generator -/
def Tm.parts (t : Tm) : List Tm := t :: (t.kids.attach.map fun k => k.1.parts).flatten
termination_by sizeOf t
decreasing_by exact Tm.kid_lt k.2
theorem Tm.parts_eq (t : Tm) : t.parts = t :: (t.kids.map Tm.parts).flatten := by
  rw [Tm.parts, List.attach_map_val (f := Tm.parts)]
theorem Tm.parts_len (t : Tm) : t.parts.length = t.size := by
  induction t using Tm.ind with
  | h t ih =>
    rw [Tm.parts_eq, Tm.size_eq, List.length_cons, List.length_flatten, List.map_map, Nat.add_comm]
    congr 1
    exact congrArg List.sum (List.map_congr_left ih)
/-- what is still to come of a stack, its end first -/
def todo (ts : List Tm) : List Tm := (ts.reverse.map Tm.parts).flatten
theorem DtAll.reverse {K : PySem.W.Frag} {H : Hp} : ∀ {xs : List V} {ds : List PyData}, DtAll K H xs ds → DtAll K H xs.reverse ds.reverse
  | _, _, .nil => .nil
  | _, _, .cons h t => by rw [List.reverse_cons, List.reverse_cons]; exact (DtAll.reverse t).append (.cons h .nil)
theorem todo_nil : todo [] = [] := rfl
theorem todo_snoc (ts : List Tm) (t : Tm) : todo (ts ++ [t]) = t :: todo (ts ++ t.kids.reverse) := by
  unfold todo
  rw [List.reverse_append, List.reverse_append, List.map_append, List.map_append, List.flatten_append, List.flatten_append, List.reverse_reverse]
  show (Tm.parts t :: []).flatten ++ _ = _
  rw [show (Tm.parts t :: []).flatten = t.parts from by simp, Tm.parts_eq]
  rfl
theorem todo_one (t : Tm) : todo [t] = t.parts := by simp [todo]
theorem todo_kids {ts : List Tm} {t : Tm} : (ts ++ t.kids.reverse).length ≤ (todo (ts ++ t.kids.reverse)).length := by
  unfold todo
  rw [List.length_flatten, List.map_map, ← List.length_reverse (as := ts ++ t.kids.reverse)]
  generalize (ts ++ t.kids.reverse).reverse = l
  induction l with
  | nil => exact Nat.le_refl _
  | cons a r ih =>
    have : 1 ≤ a.parts.length := by rw [Tm.parts_eq, List.length_cons]; omega
    rw [List.map_cons, List.sum_cons, List.length_cons]
    show _ ≤ a.parts.length + _
    omega
/-- the parts of a term, read in the tuples of the heap at the call -/
def itParts (K : PySem.W.Frag) (H : Hp) (ts : List Tm) : Nat → V → Prop := fun i x => ∃ t, ts[i]? = some t ∧ Dt K (tupsOf H) x t.d
def spParts (K : PySem.W.Frag) : SpI := fun vs H n it => ∃ (v : V) (t : Tm), vs = [v] ∧ Dt K H v t.d ∧ t.size ≤ 1000000 ∧ n = t.size ∧ it = itParts K H t.parts
theorem sq_tups {K : PySem.W.Frag} {H : Hp} {a : Addr} {xs : List V} (s : SqT K H a xs) : SqT K (tupsOf H) a xs := by
  rcases s with s | s
  · exact .inl (.inl (tupsOf_rd s))
  · exact .inr s
section
variable {P : Program} {w : World} {K : PySem.W.Frag} {mg : Str → Option Value} {base : Heap} {aF : Addr}
abbrev s_parts_of : Stmt := topS 15
abbrev stP (i : Nat) : Stmt := (defBody s_parts_of).getD i (.Pass ⟨0, 0, 0, 0⟩)
def whTest : Stmt → Expr
  | .While t _ _ _ => t
  | _ => .Constant .none 0 ⟨0, 0, 0, 0⟩
def whBody : Stmt → List Stmt
  | .While _ b _ _ => b
  | _ => []
abbrev stW (i : Nat) : Stmt := (whBody (stP 1)).getD i (.Pass ⟨0, 0, 0, 0⟩)
def yieldE : Stmt → Expr
  | .Expr (.Yield (some e) _) _ => e
  | _ => .Constant .none 0 ⟨0, 0, 0, 0⟩
theorem lk_none {sc : Scope} (h : sc.names.all (fun y => !decide (y.2 = .cell) && !decide (y.2 = .free)) = true) (x : Str) : sc.names.lookup x ≠ some .cell ∧ sc.names.lookup x ≠ some .free := by
  refine ⟨fun e => ?_, fun e => ?_⟩ <;>
  · have := List.all_eq_true.mp h _ (PySem.mem_of_lookup e)
    simp at this
theorem nc_parts : NoCells (defScope s_parts_of) := ⟨rfl, rfl, rfl, fun _ => rfl, lk_none (by decide +kernel)⟩
abbrev eP (G : Gs) (f : Addr) (cd : Value) : Env := envOfC "parts_of" (defScope s_parts_of) G.F f cd
abbrev cP (G : Gs) (mg : Str → Option Value) (f : Addr) (cd : Value) (Hw : Hp) (sn : Shared) : Cx := cxG G mg ["term", "waiting", "part"] "parts_of" (defScope s_parts_of) f cd Hw sn
abbrev codeP (G : Gs) (f : Addr) (cd : Value) : Code := .whileLoop (whTest (stP 1)) (whBody (stP 1)) [] (eP G f cd)
theorem seqT_updL {H : Hp} {D a : Addr} {vs ws zs : List V} (h : SqT K H a zs) (hD : H D = some (.lst vs)) : SqT K (upd H D (.lst ws)) a zs := seqT_upd h hD
theorem seg_loop {G : Gs} {f : Addr} {cd : Value} (S : GStat G mg) (hx : G.x = "waiting") (C_children : C8.Cal G.P G.w G.K mg G.base 1 "children" (spKidsV G.K) []) (hr : Room 1 (G.A.in1.deeper (eP G f cd)))
    {body : List Stmt} {kk : Result → Sem PySem.Fin} {l kp : List Value} {p : Pos} (hend : ∀ sn s : Shared, Stp G sn s → Seg G.M G.A.in1 (GRe G) (GYp G) 0 sn (.func body (eP G f cd)) (kk (.ok .next)) [] s) :
    ∀ (n : Nat) (sn : Shared) (own : List (Addr × Obj)) (Hw : Hp) (Wa : Addr) (ws : List V) (ts : List Tm) (s : Shared) (H : Hp) (v pt : Option V), Wk G own sn → (G.a, G.go) ∈ own → (∀ b, b < G.F → Hw b = Hw0 G sn b) → Hw G.F = none → (∀ b, ¬ OwnF G.x sn.heap G.F b → Hw b = Hw0 G sn b) →
      (∀ b, OwnF G.x sn.heap G.F b → b ≠ G.F → b = Wa) → (OwnF G.x sn.heap G.F Wa ∨ sn.heap.objs.size ≤ Wa) → G.F < Wa → Wa ≠ G.a → Inv (cP G mg f cd Hw sn) [] [v, some (.ref Wa), pt] H s → H Wa = some (.lst ws) → (∀ a xs, SqT G.K (tupsOf G.H1) a xs → SqT G.K H a xs) →
      DtAll G.K (tupsOf G.H1) ws (ts.map Tm.d) → n = (todo ts).length → n ≤ 1000000 → ts.length ≤ n → n ≤ G.n → (∀ j t x, (todo ts)[j]? = some t → Dt G.K (tupsOf G.H1) x t.d → G.it (G.n - n + j) x) →
      Seg G.M G.A.in1 (GRe G) (GYp G) n sn (codeP G f cd) (G.M.den (codeP G f cd)) [.ret kk none false l (.func body (eP G f cd)) p kp] s := by
  have stpO : ∀ {sn : Shared} {own : List (Addr × Obj)} {Hw : Hp} {Wa : Addr} {s : Shared} {H : Hp} {σ : L2.St} {ws : List V}, Wk G own sn → (∀ b, b < G.F → Hw b = Hw0 G sn b) → (∀ b, ¬ OwnF G.x sn.heap G.F b → Hw b = Hw0 G sn b) → (∀ b, OwnF G.x sn.heap G.F b → b ≠ G.F → b = Wa) →
      Inv (cP G mg f cd Hw sn) [] σ H s → H Wa = some (.lst ws) → Stp G sn s := fun {sn own Hw Wa s H σ ws} W lo hno hown I hl => stp_of S W I hno lo fun b hb hne => by
    rw [hown b hb hne]
    obtain ⟨_, _, _, _, e⟩ := I.hok Wa _ hl
    exact ⟨_, e⟩
  have pt1 : ∀ (Hw : Hp) (sn : Shared), PT (cP G mg f cd Hw sn) (whTest (stP 1)) _ := fun Hw sn => pt_truth (pv 1) (by intro _; rfl)
  have ps1 : ∀ (Hw : Hp) (sn : Shared), PS (cP G mg f cd Hw sn) (stW 0) _ := fun Hw sn => ps_set (i := 2) (by show (["term", "waiting", "part"] : List Str).Nodup; decide +kernel) rfl (.inl rfl) (pe_bm0 PySem.F.plainAttrs_list PySem.F.slot_list_pop PySem.F.type_list_pop mt_pop (pv 1))
  have pe2 : ∀ (Hw : Hp) (sn : Shared), PE (cP G mg f cd Hw sn) (yieldE (stW 1)) _ := fun Hw sn => pv 2
  have ps3 : ∀ (Hw : Hp) (sn : Shared), PS (cP G mg f cd Hw sn) (stW 2) _ := fun Hw sn => ps_expr (pe_bm PySem.F.plainAttrs_list PySem.F.slot_list_extend PySem.F.type_list_extend PKZ.mt_extendT (pv 1) (pa_cons (PKZ.pe_revT (C8.pe_c C_children hr (Nat.le_refl 1) rfl (pa_cons (pv 2) pa_nil))) pa_nil))
  intro n
  induction n with
  | zero =>
    intro sn own Hw Wa ws ts s H v pt W ago lo hF hno hown hnew hlt hWa I hl up da en n6 nt nG items
    have hts : ts = [] := List.length_eq_zero_iff.mp (by omega)
    subst hts
    have hws : ws = [] := by cases da; rfl
    subst hws
    refine seg_whileLoop ?_
    rw [over_loop rfl rfl, over_func]
    refine wpAny_mono ((pt1 Hw sn).run [] s _ H (fun b H' => b = false ∧ H' = H) I ⟨_, rfl, false, .inl ⟨[], SqL.of hl, rfl⟩, rfl, rfl⟩) (fun b s' ⟨H', I', hb, eH⟩ => ?_) fun _ _ z => False.elim z
    subst hb eH
    rw [if_neg Bool.false_ne_true]
    exact seg_execs_nil (seg_leaf (.ok .next) (hend sn s' (stpO W lo hno hown I' hl)))
  | succ m ih =>
    intro sn own Hw Wa ws ts s H v pt W ago lo hF hno hown hnew hlt hWa I hl up da en n6 nt nG items
    have tne : ts ≠ [] := fun e => by rw [e] at en; cases en
    obtain ⟨tr, t, rfl⟩ : ∃ tr t, ts = tr ++ [t] := ⟨ts.dropLast, ts.getLast tne, (List.dropLast_concat_getLast tne).symm⟩
    rw [List.map_append] at da
    obtain ⟨wr, wl, rfl, dr, dl⟩ := DtAll.splitR da
    obtain ⟨x, rfl, dx⟩ : ∃ x, wl = [x] ∧ Dt G.K (tupsOf G.H1) x t.d := by
      cases dl with
      | cons h r => cases r; exact ⟨_, rfl, h⟩
    rw [todo_snoc] at en items
    have en' : m = (todo (tr ++ t.kids.reverse)).length := by rw [List.length_cons] at en; omega
    refine seg_whileLoop ?_
    rw [over_loop rfl rfl, over_func]
    refine wpAny_mono ((pt1 Hw sn).run [] s _ H (fun b H' => b = true ∧ H' = H) I ⟨_, rfl, true, .inl ⟨_, SqL.of hl, by simp⟩, rfl, rfl⟩) (fun b s' ⟨H', I', hb, eH⟩ => ?_) fun _ _ z => False.elim z
    subst hb eH
    rw [if_pos rfl]
    -- part = waiting.pop()
    refine seg_execs_cons (st := stW 0) (rest := [stW 1, stW 2]) (seg_wrap ?_)
    rw [over_loop rfl rfl, over_func]
    refine wpAny_mono ((ps1 Hw sn).run [] s' _ H' { nx := fun σ H2 => σ = [v, some (.ref Wa), some x] ∧ H2 = upd H' Wa (.lst wr), rt := fun _ _ => False } I' ?_) (fun fl s2 h2 => ?_) fun _ _ z => False.elim z
    · refine ⟨_, rfl, .inl ⟨rfl, _, SqL.of hl⟩, Wa, _, x, rfl, rfl, hl, by simp, ?_⟩
      rw [List.dropLast_concat]
      exact ⟨rfl, rfl⟩
    cases fl with
    | ret _ => obtain ⟨_, _, _, _, _, z⟩ := h2; exact z.elim
    | brk => obtain ⟨_, _, _, z⟩ := h2; exact z.elim
    | cont => obtain ⟨_, _, _, z⟩ := h2; exact z.elim
    | next =>
    obtain ⟨σ2, H2, I2, rfl, rfl⟩ := h2
    -- yield part
    refine seg_execs_cons (st := stW 1) (rest := [stW 2]) (seg_Expr_Yield rfl rfl rfl ?_)
    rw [over_loop rfl rfl, over_func]
    refine wpAny_mono ((pe2 Hw sn).run [] s2 _ (upd H' Wa (.lst wr)) (fun y H3 => y = x ∧ H3 = upd H' Wa (.lst wr)) I2 ⟨_, rfl, rfl, rfl⟩) (fun u s3 ⟨y, H3, I3, ru, ey, e3⟩ kap hkap => ?_) fun _ _ z => False.elim z
    subst ey e3
    have hl3 : upd H' Wa (.lst wr) Wa = some (.lst wr) := upd_same
    have I3' : Inv (cP G mg f cd Hw sn) [] [v, some (.ref Wa), some y] (upd H' Wa (.lst wr)) s3 := I3
    have stp : Stp G sn s3 := stpO W lo hno hown I3' hl3
    obtain ⟨mp, hN, hlook⟩ := id I3.loc
    have hN : s3.heap.Ns G.F mp := hN
    have nc : ∀ {z c} {q : Prop}, (eP G f cd).cells.lookup z = some c → q := fun {z c q} e => by
      have e' : (cellsFrom (G.F + 1) (defScope s_parts_of).names []).lookup z = some c := e
      rw [nc_parts.cells] at e'
      cases e'
    have lw : mp "waiting" = some (.ref Wa) := by
      obtain ⟨u', r', l'⟩ := hlook 1 "waiting" (.ref Wa) rfl rfl (.inl rfl)
      rcases l' with ⟨_, e⟩ | ⟨_, c, e, _⟩
      · rw [e]; cases r'; rfl
      · exact nc e
    have lp : ∃ u', RelV y u' ∧ mp "part" = some u' := by
      obtain ⟨u', r', l'⟩ := hlook 2 "part" y rfl rfl (.inl rfl)
      rcases l' with ⟨_, e⟩ | ⟨_, c, e, _⟩
      · exact ⟨u', r', e⟩
      · exact nc e
    obtain ⟨fo, fes, fep, hfo, hfd, hfr⟩ := id hN
    obtain ⟨zw, its, cw, rw, eW⟩ := I3.hok Wa _ hl3
    have ego : s3.heap.get? G.a = some G.go := stp.keep G.a G.go (W.own _ ago) (fun z => by
      by_cases q : G.a = G.F
      · exact absurd q (Nat.ne_of_gt S.Fa)
      · exact hWa (hown _ z q).symm) fun z => Nat.lt_asymm (S.stk _ z).1 S.Fa
    have own3 : ∀ (h : Heap) (b : Addr), h.get? G.F = some fo → OwnF "waiting" h G.F b → b = G.F ∨ b = Wa := fun h b e q => by
      rcases q with q | ⟨m2, hm2, q⟩
      · exact .inl q
      · have h1 : h.Ns G.F mp := ⟨fo, fes, fep, e, hfd, hfr⟩
        have := h1.agree hm2 "waiting"
        rw [lw, q] at this
        cases this
        exact .inr rfl
    have wne : Wa ≠ G.F := Nat.ne_of_gt hlt
    refine ⟨y, [(G.a, G.go), (G.F, fo), (Wa, { cls := .type "list", data := .seq its.toArray cw })], nG, ?_, ru, stp, ⟨fun q hq => ?_, fun q hq => ?_, fun b hb => ?_, List.mem_cons_self⟩, fun sn' W' => ?_⟩
    · exact items 0 t y rfl dx
    · rcases List.mem_cons.mp hq with z | z
      · rw [z]; exact ⟨ego, S.goc⟩
      · rcases List.mem_cons.mp z with z | z
        · rw [z]; exact ⟨hfo, fun v q => by rw [hfd] at q; cases q⟩
        · rw [List.mem_singleton.mp z]; exact ⟨eW, fun v q => by cases q⟩
    · rcases List.mem_cons.mp hq with z | z
      · rw [z]; exact .inr (.inr rfl)
      · rcases List.mem_cons.mp z with z | z
        · rw [z]; exact .inl (.inl rfl)
        · rw [List.mem_singleton.mp z]
          rcases hnew with z | z
          · exact .inl z
          · exact .inr (.inl z)
    · rw [hx] at hb
      rcases own3 _ b hfo hb with z | z
      · rw [z]; exact List.mem_cons_of_mem _ List.mem_cons_self
      · rw [z]; exact List.mem_cons_of_mem _ (List.mem_cons_of_mem _ List.mem_cons_self)
    have eF' : sn'.heap.get? G.F = some fo := W'.own (G.F, fo) (List.mem_cons_of_mem _ List.mem_cons_self)
    have eW' : sn'.heap.get? Wa = some { cls := .type "list", data := .seq its.toArray cw } := W'.own (Wa, _) (List.mem_cons_of_mem _ (List.mem_cons_of_mem _ List.mem_cons_self))
    have ownW : OwnF G.x sn'.heap G.F Wa := .inr ⟨mp, ⟨fo, fes, fep, eF', hfd, hfr⟩, by rw [hx]; exact lw⟩
    have hn0 : ∀ c u, Hw0 G sn' c = some u → (∀ o q, u ≠ .frz o q) → False := fun c u e n => by
      by_cases l1 : c < G.F
      · obtain ⟨xs, o, rfl, _⟩ := Hw0_lt l1 e
        exact n _ _ rfl
      · by_cases l2 : c = G.F
        · rw [l2, Hw0_F] at e; cases e
        · have gt : G.F < c := Nat.lt_of_le_of_ne (Nat.le_of_not_lt l1) (Ne.symm l2)
          cases q : sn'.heap.get? c with
          | none => rw [Hw0_upn gt q] at e; cases e
          | some o => rw [Hw0_up gt q] at e; cases e; exact n _ _ rfl
    have ok' : HOk G.P G.w (upd (Hw0 G sn') Wa (.lst wr)) sn'.heap := fun b u e => by
      by_cases hb : b = Wa
      · subst hb
        rw [upd_same] at e
        cases e
        exact ⟨zw, its, cw, rw, eW'⟩
      · rw [upd_ne hb] at e
        exact (Hw0_ok W' b u e).stay (fun _ _ _ z => z) (fun c z => (hn0 c _ z fun _ _ => HO.noConfusion).elim) fun c xs z => (hn0 c _ z fun _ _ => HO.noConfusion).elim
    have I4 : Inv (cP G mg f cd (upd (Hw0 G sn') Wa (.lst wr)) sn') [] [none, some (.ref Wa), some y] (upd (Hw0 G sn') Wa (.lst wr)) sn' := by
      refine inv_wake S nc_parts W' (fun b hb => upd_ne (fun z => by rw [z] at hb; exact Nat.lt_asymm hb hlt)) (by rw [upd_ne wne.symm]; exact Hw0_F) ok' (m := mp) ⟨fo, fes, fep, eF', hfd, hfr⟩ rfl fun i z q h1 h2 => ?_
      match i, h1, h2 with
      | 0, h1, h2 => cases h2
      | 1, h1, h2 => cases h1; cases h2; exact ⟨_, rfl, lw, rfl⟩
      | 2, h1, h2 =>
        cases h1
        cases h2
        obtain ⟨u', r', e'⟩ := lp
        exact ⟨u', r', e', rfl⟩
    have up4 : ∀ a xs, SqT G.K (tupsOf G.H1) a xs → SqT G.K (upd (Hw0 G sn') Wa (.lst wr)) a xs := fun a xs z => by
      rcases Hw0_sq S W' a xs z with (z | ⟨o, z⟩) | z
      · exact (hn0 _ _ z fun _ _ => HO.noConfusion).elim
      · refine .inl (.inr ⟨o, ?_⟩)
        rw [upd_ne]
        · exact z
        · intro e
          rw [e, Hw0_up hlt eW'] at z
          cases z
      · exact .inr z
    have go : Seg G.M G.A.in1 (GRe G) (GYp G) m sn' (codeP G f cd) ((execs [stW 2] (eP G f cd)).wrap (fun f_1 => match f_1 with
            | .next | .cont => .pure (.again (codeP G f cd))
            | .brk => .pure (.done .next)
            | .ret v => .pure (.done (.ret v))) (fun e => (do noteFrame e (eP G f cd); theTreesLotGoes e : Sem Unit).wrap (fun _ => .raise e) .raise id id) id id) [.ret kk none false l (.func body (eP G f cd)) p kp] sn' := by
      refine seg_execs_cons (st := stW 2) (rest := []) (seg_wrap ?_)
      rw [over_loop rfl rfl, over_func]
      refine wpAny_mono ((ps3 (upd (Hw0 G sn') Wa (.lst wr)) sn').run [] sn' _ (upd (Hw0 G sn') Wa (.lst wr)) { nx := fun σ H5 => σ = [none, some (.ref Wa), some y] ∧ ∃ kv, DtAll G.K (tupsOf G.H1) kv (t.kids.map Tm.d) ∧ H5 Wa = some (.lst (wr ++ kv.reverse)) ∧ ∀ a xs, SqT G.K (tupsOf G.H1) a xs → SqT G.K H5 a xs, rt := fun _ _ => False } I4 ?_) (fun fl s5 h5 => ?_) fun _ _ z => False.elim z
      · have lk : t.kids.length ≤ m := by
          have := todo_kids (ts := tr) (t := t)
          rw [List.length_append, List.length_reverse] at this
          omega
        refine ⟨_, rfl, .inl ⟨rfl, _, SqL.of upd_same⟩, _, rfl, y, t, tupsOf G.H1, rfl, up4, dx, by omega, fun H5 p5 kv s5 hs5 dk => ⟨p5, kv, rfl, hs5, fun q5 hq5 => ?_⟩⟩
        have hW5 : H5 Wa = some (.lst wr) := s5 _ _ upd_same
        have hW6 : upd H5 q5 (.tup kv.reverse) Wa = some (.lst wr) := by rw [upd_ne (ne_of_none hW5 hq5)]; exact hW5
        refine ⟨Wa, q5, wr, kv.reverse, rfl, rfl, hW6, SqT.of upd_same, ?_, rfl, kv, dk, upd_same, fun a xs z => ?_⟩
        · have l1 := dr.lenD
          have l2 := dk.lenD
          have := todo_kids (ts := tr) (t := t)
          rw [List.length_append, List.length_reverse] at this
          rw [List.length_map] at l1 l2
          rw [List.length_reverse]
          have := sizeLine_eq
          omega
        · exact seqT_upd (Same.seqT (s5.trans (same_new hq5)) (up4 a xs z)) hW6
      cases fl with
      | ret _ => obtain ⟨_, _, _, _, _, z⟩ := h5; exact z.elim
      | brk => obtain ⟨_, _, _, z⟩ := h5; exact z.elim
      | cont => obtain ⟨_, _, _, z⟩ := h5; exact z.elim
      | next =>
      obtain ⟨σ5, H5, I5, rfl, kv, dk, hl5, up5⟩ := h5
      refine seg_execs_nil (seg_again rfl ?_)
      refine ih sn' _ (upd (Hw0 G sn') Wa (.lst wr)) Wa (wr ++ kv.reverse) (tr ++ t.kids.reverse) s5 H5 none (some y) W' List.mem_cons_self (fun b hb => upd_ne (fun z => by rw [z] at hb; exact Nat.lt_asymm hb hlt)) (by rw [upd_ne wne.symm]; exact Hw0_F) (fun b hb => upd_ne (fun z => hb (by rw [z]; exact ownW))) (fun b hb hne => ?_) (.inl ownW) hlt hWa I5 hl5 up5 ?_ en' (by omega) ?_ (by omega) fun j t' x' hj hd => ?_
      · rw [hx] at hb
        exact (own3 _ b eF' hb).resolve_left hne
      · rw [List.map_append, List.map_reverse]
        exact dr.append dk.reverse
      · rw [en']; exact todo_kids
      · have := items (j + 1) t' x' (by simpa using hj) hd
        rw [show G.n - m + j = G.n - (m + 1) + (j + 1) by omega]
        exact this
    exact ⟨hkap _ _ go, hkap _ _ go⟩
/-- x = [y], y a local name: the list is the next object -/
theorem set_one {X : Cx} {pins : List (Addr × Obj)} {s : Shared} {σ : L2.St} {H : Hp} {i j : Nat} {x y : Str} {v : V} {p1 p2 p3 p4 : Pos} {E : Value → Shared → Prop} (I : Inv X pins σ H s) (hN : X.N.Nodup) (hi : X.N[i]? = some x) (hx : X.env.scope.names.lookup x = some .local)
    (hj : X.N[j]? = some y) (hy : X.env.scope.names.lookup y = some .local) (hc : ∀ c, X.env.cells.lookup y ≠ some c) (hv : σ[j]? = some (some v)) (hd : (y == ("__debug__" : Str)) = false)
    (hs : swapsWith (.List [.Name y p2] p3) (some (.Name x p1)) p4.line X.env = pure false := by rfl) (he : starEach [.Name y p2] X.env = (false, eval (.Name y p2) X.env) :: starEach [] X.env := by rfl) :
    wpAny (model X.prog X.w) X.A (exec (.Assign [.Name x p1] (.List [.Name y p2] p3) p4) X.env) (fun f s' => f = .next ∧ Inv X pins (σ.set i (some (.ref s.heap.objs.size))) (upd H s.heap.objs.size (.lst [v])) s') E s := by
  obtain ⟨m, hn, hl⟩ := id I.loc
  obtain ⟨u, r, l⟩ := hl j y v hj hv (.inl hy)
  have lm : m y = some u ∧ X.env.kindOf y = some .local := by
    rcases l with ⟨hk, e⟩ | ⟨_, c, e, _⟩
    · exact ⟨e, hk⟩
    · exact absurd e (hc c)
  refine wpAny_Assign_Name ?_ hs
  refine wpAny_List_spliced ?_
  rw [he]
  show wpAny _ _ (spliced ((false, eval (.Name y p2) X.env) :: backTo p3 (starEach [] X.env))) _ _ s
  refine Calls.spliced_cons (wpAny_Name (wpAny_loadName_local I.ok.kind lm.2 hn lm.1 ?_) hd)
  refine Calls.spliced_nil ⟨small (by show 1 ≤ _; decide), ?_⟩
  have I2 : Inv X pins σ (upd H s.heap.objs.size (.lst [v])) { s with heap := s.heap.push { cls := .type "list", data := .seq [u].toArray } } :=
    I.laid (t' := s.toks) (fun b o e => Heap.get?_push_of_some _ e) (Nat.le_refl _) ⟨small (by show 1 ≤ _; decide), [u], 0, .cons r .nil, Heap.get?_push_size _ rfl⟩
  exact store_ok (v := .ref s.heap.objs.size) I2 hN hi (.inl hx) rfl (fun s2 I3 => ⟨rfl, I3⟩) (.inr hx)
theorem ok_parts {f : Addr} {fd : FuncData} (F : Fun K "parts_of" "parts_of" s_parts_of f fd) (C_children : C8.Cal P w K mg base 1 "children" (spKidsV K) []) : GFnG P w K mg base 3 f fd ["term"] (spParts K) := by
  obtain ⟨oc, od, kV, doc, pm, an, cdv, ct, osl, rfl, lk, hcd⟩ := F.ex
  refine gfnG_of "waiting" lk hcd nc_parts rfl (N := ["term", "waiting", "part"]) (by decide +kernel) (fun y hy => by rw [List.mem_singleton.mp hy]; rfl) (by decide +kernel) (fun vs H n it h => by obtain ⟨v, t, rfl, _⟩ := h; rfl) fun G vs own sn eP' ew eK eb ex S hr hsp W ago hno I => ?_
  subst eP' ew eK eb
  obtain ⟨v, t, rfl, dv, hs, en, eit⟩ := hsp
  refine seg_func ?_
  refine seg_execs_cons (st := stP 0) (rest := [stP 1]) (seg_wrap ?_)
  rw [over_func]
  have nc : ∀ {z c} {q : Prop}, (eP G f cdv).cells.lookup z = some c → q := fun {z c q} e => by
    have e' : (cellsFrom (G.F + 1) (defScope s_parts_of).names []).lookup z = some c := e
    rw [nc_parts.cells] at e'
    cases e'
  have st0 : wpAny (model G.P G.w) (cP G mg f cdv (Hw0 G sn) sn).A (exec (stP 0) (cP G mg f cdv (Hw0 G sn) sn).env) _ (fun _ _ => False) sn := set_one (X := cP G mg f cdv (Hw0 G sn) sn) (i := 1) (j := 0) (v := v) (x := "waiting") (y := "term") I (by show (["term", "waiting", "part"] : List Str).Nodup; decide +kernel) rfl rfl rfl rfl (fun c e => nc e) rfl (by decide)
  refine wpAny_mono st0 (fun fl s2 ⟨efl, I2⟩ => ?_) fun _ _ z => False.elim z
  subst efl
  refine seg_execs_cons (st := stP 1) (rest := []) (seg_While fun p => ?_)
  have szF : G.F < sn.heap.objs.size := I.lt
  have sza : G.a < sn.heap.objs.size := Heap.lt_size (W.own _ ago)
  have nd : (Hw0 G sn) sn.heap.objs.size = none := I.hok.fresh (Nat.le_refl _)
  refine seg_loop S ex C_children (hr.mono (by decide)) (fun sn' s' stp => ?_) G.n sn own (Hw0 G sn) sn.heap.objs.size [v] [t] s2 _ (some v) none W ago (fun _ _ => rfl) Hw0_F (fun _ _ => rfl) (fun b hb hne => ?_) (.inr (Nat.le_refl _)) szF (Nat.ne_of_gt sza) I2 upd_same (fun a xs z => Same.seqT (same_new nd) (Hw0_sq S W a xs z)) (.cons (Dt.mono (fun _ _ z => sq_tups z) _ _ dv) .nil) ?_ (by omega) ?_ (Nat.le_refl _) fun j t' x' hj hd => ?_
  · exact seg_end (.ok (.ret .none)) (.inl ⟨.inl rfl, rfl, stp⟩)
  · exact absurd ⟨by rw [← ex]; exact hb, hne⟩ (hno b)
  · rw [todo_one, Tm.parts_len]; exact en
  · have : 1 ≤ t.size := by rw [Tm.size_eq]; omega
    show 1 ≤ G.n
    omega
  · rw [todo_one] at hj
    rw [Nat.sub_self, Nat.zero_add, eit]
    exact ⟨t', hj, hd⟩
end
end PK
namespace PK
open PySem L2
/-! words with one letter of a to m: which one tells them apart -/
abbrev LM : Str := "abcdefghijklm"
abbrev OM : Str := "nopqrstuvwxyz0123456789_"
theorem lm_len : LM.cps.toList.length = 13 := by decide +kernel
theorem om_len : OM.cps.toList.length = 24 := by decide +kernel
theorem lm_om : ∀ s ∈ OM.cps.toList, s ∉ LM.cps.toList := by decide +kernel
theorem lm_let : ∀ s ∈ LM.cps.toList, s ∈ LET.cps.toList := by decide +kernel
theorem om_oth : ∀ s ∈ OM.cps.toList, s ∈ OTH.cps.toList := by decide +kernel
theorem om_let : ∀ s ∈ OM.cps.toList.take 13, s ∈ LET.cps.toList := by decide +kernel
/-- the sign of number j, mod 13 -/
def lmAt (j : Int) : Nat := LM.cps.toList.getD (j % 13).toNat 0
/-- of the letters a to m the word has just this one -/
structure Tag (x : Str) (c : Nat) : Prop where
  lm : c ∈ LM.cps.toList
  has : c ∈ x.cps.toList
  only : ∀ s ∈ x.cps.toList, s = c ∨ s ∈ OM.cps.toList
theorem Tag.one {x : Str} {c d : Nat} (a : Tag x c) (b : Tag x d) : c = d := (b.only c a.has).elim id fun z => absurd a.lm (lm_om c z)
theorem lmAt_inj {i j : Int} (h : lmAt i = lmAt j) : i % 13 = j % 13 := by
  have key : ∀ a, a < 13 → ∀ b, b < 13 → LM.cps.toList.getD a 0 = LM.cps.toList.getD b 0 → a = b := by decide +kernel
  have := key (i % 13).toNat (by omega) (j % 13).toNat (by omega) h
  omega
theorem lmAt_mem (j : Int) : lmAt j ∈ LM.cps.toList := by
  have key : ∀ a, a < 13 → LM.cps.toList.getD a 0 ∈ LM.cps.toList := by decide +kernel
  exact key _ (by omega)
theorem lm_ix {j : Int} {H : Hp} {Q : VK} (q : Q (.str (one (lmAt j))) H) : rIxS (.str LM) (.int (j % 13)) H Q := by
  have hj : (j % 13).toNat < LM.cps.toList.length := by rw [lm_len]; omega
  refine ⟨LM, j % 13, lmAt j, rfl, rfl, by rw [len_list, lm_len]; exact small (by decide), ?_, q⟩
  have e : j % 13 = (((j % 13).toNat : Nat) : Int) := by omega
  rw [e]
  refine atI_nat ?_
  unfold lmAt
  rw [List.getElem?_eq_getElem hj, List.getD_eq_getElem?_getD, List.getElem?_eq_getElem hj]
  rfl
theorem om_ix {n : Nat} (hn : n ≤ 24) {d : Int} {H : Hp} {Q : VK} (h0 : 0 ≤ d) (h1 : d < (n : Int)) (q : ∀ s, s ∈ OM.cps.toList.take n → Q (.str (one s)) H) : rIxS (.str OM) (.int d) H Q := by
  obtain ⟨j, rfl⟩ : ∃ j : Nat, d = j := ⟨d.toNat, by omega⟩
  have hj : j < OM.cps.toList.length := by rw [om_len]; omega
  refine ⟨OM, j, OM.cps.toList[j], rfl, rfl, by rw [len_list, om_len]; exact small (by decide), atI_nat (List.getElem?_eq_getElem hj), q _ ?_⟩
  exact List.mem_take_iff_getElem.mpr ⟨j, by omega, rfl⟩
theorem two_lm {x : Str} {a b : Nat} (ha : a ∈ x.cps.toList) (hb : b ∈ x.cps.toList) (la : a ∈ LM.cps.toList) (lb : b ∈ LM.cps.toList) (ne : a ≠ b) (c : Nat) (t : Tag x c) : False := by
  have e1 := (t.only a ha).elim id fun z => absurd la (lm_om a z)
  have e2 := (t.only b hb).elim id fun z => absurd lb (lm_om b z)
  exact ne (e1.trans e2.symm)
theorem no_get (c : Nat) : ¬ Tag "get" c := two_lm (a := 103) (b := 101) (by decide +kernel) (by decide +kernel) (by decide +kernel) (by decide +kernel) (by decide) c
theorem no_minus (c : Nat) : ¬ Tag "minus" c := two_lm (a := 109) (b := 105) (by decide +kernel) (by decide +kernel) (by decide +kernel) (by decide +kernel) (by decide) c
def spLWord : Sp := fun vs H Q _ => ∃ (l c : Addr) (k s : Int), vs = [.ref l, .int k, .int s] ∧ Pool H l c ∧ ∀ (H' : Hp) (x : Str), Ext l c H H' → Wd x → Tag x (lmAt (k + s)) → x ∉ (["get", "set", "plus", "minus", "new"] : List Str) → Q (.str x) H'
section
variable {P : Program} {w : World} {K : PySem.W.Frag} {mg : Str → Option Value} {base : Heap}
abbrev s_law_word : Stmt := topS 43
theorem sc_law_word : FnScope ["pool", "k", "shift", "letters", "others", "most", "at", "row", "place", "word"] ["pool", "k", "shift"] (defScope s_law_word) := ⟨rfl, rfl, rfl, by decide +kernel, rfl, by decide +kernel, by decide +kernel⟩
-- slots: 0:pool 1:k 2:shift 3:letters 4:others 5:most 6:at 7:row 8:place 9:word
theorem ok_lword {f : Addr} {fd : FuncData} (F : Fun K "_law_word" "_law_word" s_law_word f fd) (T : Txt K mg) (C_law_take : C8.Cal P w K mg base 2 "_law_take" (spTake 2) []) : FnOk P w K mg base CX0 3 f fd ["pool", "k", "shift"] spLWord := by
  refine F.ok sc_law_word (fun vs H Q E h => ?_) (fun cdv A outer s H vs Q E hr h => ?_)
  · obtain ⟨_, _, _, _, rfl, _⟩ := h
    rfl
  obtain ⟨l, c, k, sh, rfl, P0, q⟩ := h
  refine ⟨_, (pss_cons (ps_set (i := 3) sc_law_word.nd rfl (Or.inl rfl) pe_str)
    (pss_cons (ps_set (i := 4) sc_law_word.nd rfl (Or.inl rfl) pe_str)
    (pss_cons (ps_set (i := 5) sc_law_word.nd rfl (Or.inl rfl) (pe_op op_add pe_int (C8.pe_c C_law_take hr (by decide) rfl (pa_cons (pv 0) (pa_cons pe_int pa_nil)))))
    (pss_cons (ps_set (i := 6) sc_law_word.nd rfl (Or.inl rfl) (C8.pe_c C_law_take hr (by decide) rfl (pa_cons (pv 0) (pa_cons (pv 5) pa_nil))))
    (pss_cons (ps_set (i := 7) sc_law_word.nd rfl (Or.inl rfl) (pe_lst (pa_cons (pe_ix ix_str (pv 3) (pe_op op_mod (pe_callTy call_int1 (by rfl) T.z_int (by decide +kernel) (pa_cons (pe_op op_add (pv 1) (pv 2)) pa_nil)) pe_int) (fun _ _ => rfl)) pa_nil)))
    (pss_cons (ps_for PassesOwn.never rfl (pi_range2 (by rfl) T.z_range (pa_cons pe_int (pa_cons (pv 5) pa_nil))) (pg_name (i := 8) sc_law_word.nd rfl (Or.inl rfl)) (pss_one (ps_expr (pe_bm PySem.F.plainAttrs_list PySem.F.slot_list_append PySem.F.type_list_append mt_append (pv 7) (pa_cons (pe_ix ix_str (pv 4) (C8.pe_c C_law_take hr (by decide) rfl (pa_cons (pv 0) (pa_cons pe_int pa_nil))) (fun _ _ => rfl)) pa_nil)))))
    (C8.pss_cut (ps_if (pt_cmpR op_gt (pv 6) pe_int (nomark _)) (pss_cons (ps_asg (pe_ix ix_str (pv 4) (C8.pe_c C_law_take hr (by decide) rfl (pa_cons (pv 0) (pa_cons pe_int pa_nil))) (fun _ _ => rfl)) (pg_sub (pv 7) pe_int set_list))
    (pss_one (ps_asg (pe_ix ix_str (pv 3) (pe_op op_mod (pe_callTy call_int1 (by rfl) T.z_int (by decide +kernel) (pa_cons (pe_op op_add (pv 1) (pv 2)) pa_nil)) pe_int) (fun _ _ => rfl)) (pg_sub (pv 7) (pv 6) set_list)))) pss_nil)
    (pss_cons (ps_set (i := 9) sc_law_word.nd rfl (Or.inl rfl) (pe_join pe_str (pv 7)))
    (pss_cons (ps_if (pt_cmpR op_in_seq (pv 9) (pe_lst (pa_cons pe_str (pa_cons pe_str (pa_cons pe_str pa_nil)))) rfl) (pss_one (ps_ret (pe_op op_add_str (pv 9) pe_str))) pss_nil)
    (pss_one (ps_ret (pv 9)))))))))))), ?_⟩
  refine vTake rfl P0 (by decide) (by decide) fun d H1 d0 d12 x1 => ?_
  obtain ⟨m, rfl⟩ : ∃ m : Nat, d = m := ⟨d.toNat, by omega⟩
  refine ⟨_, _, rfl, rfl, ?_⟩
  refine ⟨_, rfl, _, rfl, l, c, 1 + (m : Int), False, rfl, x1.pool, by omega, by omega, .inl (Nat.le_refl 2), fun at_ H2 a0 a1 x2 => ?_⟩
  have x2' := x1.trans x2
  refine ⟨_, rfl, ⟨_, rfl, ⟨_, rfl, _, _, rfl, rfl, .inl ⟨_, rfl, _, _, rfl, rfl, (by show (0 : Int) < 13; decide), lm_ix ⟨small (by show 1 ≤ _; decide), fun R hR => ?_⟩⟩⟩⟩⟩
  have x3 := x2'.new (o := .lst [.str (one (lmAt (k + sh)))]) P0 hR
  have nR : R ≠ l := (x2'.pool.ne hR).1
  have hR0 : H R = none := x2'.free P0 hR
  have cl := lmAt_mem (k + sh)
  refine ⟨_, rfl, 1, 1 + (m : Int), rfl, ⟨by decide, by decide, by omega, by omega⟩, for_range (lo := 1) (n := (1 + (m : Int) - 1).toNat) (fun i σ H' => ∃ (row : List Nat) (b d : Option V), σ = [some (.ref l), some (.int k), some (.int sh), some (.str LM), some (.str OM), some (.int (1 + m)), some (.int at_), some (.ref R), b, d] ∧ Ext l c H H' ∧
    H' R = some (.lst ((lmAt (k + sh) :: row).map fun s => V.str (one s))) ∧ row.length = i ∧ ∀ s ∈ row, s ∈ OM.cps.toList) ?_ ?_ ?_⟩
  · exact ⟨[], none, none, rfl, x3, upd_same, rfl, fun _ h => nomatch h⟩
  · rintro i σ H' hi ⟨row, b, d, rfl, x, hr1, lr, ho⟩
    have hR1 := hr1
    refine ⟨_, rfl, .inl ⟨rfl, _, SqL.of hR1⟩, ⟨_, rfl, vTake rfl x.pool (by decide) (by decide) fun e H3 e0 e1 y => om_ix (Nat.le_refl 24) e0 e1 fun s hs => ?_⟩⟩
    have hR2 := y.keep _ _ nR hR1
    refine ⟨R, _, _, rfl, rfl, hR2, smallL (by rw [List.length_map, List.length_cons]; omega), row ++ [s], _, _, rfl, (x.trans y).upd P0 hR0, ?_, by rw [List.length_append, lr]; rfl, fun z hz => ?_⟩
    · rw [upd_same, List.map_cons, List.map_cons, List.map_append]; rfl
    · rcases List.mem_append.mp hz with h | h
      · exact ho z h
      · rw [List.mem_singleton.mp h]; exact List.mem_of_mem_take hs
  rintro σ H' ⟨row, b, d, rfl, x, hr1, lr, ho⟩
  have lm : row.length = m := by rw [lr]; omega
  -- what the word is made of
  refine ⟨fun σ H' => ∃ (sg : List Nat) (b d : Option V), σ = [some (.ref l), some (.int k), some (.int sh), some (.str LM), some (.str OM), some (.int (1 + m)), some (.int at_), some (.ref R), b, d] ∧ Ext l c H H' ∧ H' R = some (.lst (sg.map fun s => V.str (one s))) ∧
    sg.length = 1 + m ∧ lmAt (k + sh) ∈ sg ∧ (∀ s ∈ sg, s = lmAt (k + sh) ∨ s ∈ OM.cps.toList) ∧ ∃ f r, sg = f :: r ∧ f ∈ LET.cps.toList, ?_, ?_⟩
  · refine ⟨_, rfl, _, _, rfl, rfl, _, rfl, ite2 (fun e => ?_) (fun e => ?_)⟩
    · have a1' : 0 < at_ := of_decide_eq_true e
      refine ⟨_, rfl, vTake rfl x.pool (by decide) (by decide) fun e1 H5 e0 e13 y => om_ix (n := 13) (by decide) e0 e13 fun o hoo => ?_⟩
      have hR5 := y.keep _ _ nR hr1
      refine ⟨_, rfl, R, _, 0, 0, rfl, rfl, hR5, ixN_of (by decide) (by rw [List.length_map, List.length_cons]; omega), ?_⟩
      refine ⟨_, rfl, ⟨_, rfl, ⟨_, rfl, _, _, rfl, rfl, .inl ⟨_, rfl, _, _, rfl, rfl, (by show (0 : Int) < 13; decide), lm_ix ⟨_, rfl, _, rfl, R, _, at_, at_.toNat, rfl, rfl, upd_same, ixN_of a0 (by rw [List.length_set, List.length_map, List.length_cons]; omega), ?_⟩⟩⟩⟩⟩
      refine ⟨(o :: row).set at_.toNat (lmAt (k + sh)), _, _, rfl, ((x.trans y).upd P0 hR0).upd P0 hR0, ?_, ?_, ?_, ?_, ?_⟩
      · rw [upd_same, List.map_set]; rfl
      · rw [List.length_set, List.length_cons]; omega
      · exact List.mem_set (by rw [List.length_cons]; omega) _
      · intro z hz
        rcases List.mem_or_eq_of_mem_set hz with h | h
        · rcases List.mem_cons.mp h with h | h
          · rw [h]; exact .inr (List.mem_of_mem_take hoo)
          · exact .inr (ho z h)
        · exact .inl h
      · obtain ⟨j, ej⟩ : ∃ j, at_.toNat = j + 1 := ⟨at_.toNat - 1, by omega⟩
        rw [ej]
        exact ⟨o, _, rfl, om_let o hoo⟩
    · exact ⟨lmAt (k + sh) :: row, _, _, rfl, x, hr1, by rw [List.length_cons]; omega, .head _, fun z hz => (List.mem_cons.mp hz).imp id (ho z), _, _, rfl, lm_let _ cl⟩
  · rintro σ' H4 ⟨sg, b, d, rfl, x4, hsg, ls, hc, hon, f, r, rfl, hf⟩
    have hall : ∀ s ∈ f :: r, s ∈ OTH.cps.toList := fun s hs => (hon s hs).elim (fun e => by rw [e]; exact let_oth _ (lm_let _ cl)) (om_oth s)
    have ew : (Txt.join "" ((f :: r).map one)).cps.toList = f :: r := txt_join _
    have hw : Wd (Txt.join "" ((f :: r).map one)) := Wd.of ew hf (fun z hz => hall z (.tail _ hz)) (by rw [List.length_cons] at ls; omega)
    have ht : Tag (Txt.join "" ((f :: r).map one)) (lmAt (k + sh)) := ⟨cl, by rw [ew]; exact hc, by rw [ew]; exact hon⟩
    refine ⟨⟨_, rfl⟩, _, rfl, "", R, (f :: r).map one, rfl, rfl, .inl (SqL.of (by rw [List.map_map]; exact hsg)), by rw [one_sum, ls]; show 1 + m + _ * 0 ≤ _; omega, ?_⟩
    generalize Txt.join "" ((f :: r).map one) = wd at ew hw ht
    refine ⟨_, rfl, small (by show 3 ≤ _; decide), fun q1 hq1 => ⟨q1, _, rfl, .inl (SqL.of upd_same), rfl, flat_strs ["set", "plus", "new"], _, rfl, ?_⟩⟩
    rw [show inV (V.str wd) [V.str "set", .str "plus", .str "new"] = decide (wd ∈ (["set", "plus", "new"] : List Str)) from inV_str wd ["set", "plus", "new"]]
    have y := x4.new (o := .lst [V.str "set", .str "plus", .str "new"]) P0 hq1
    by_cases hin : wd ∈ (["set", "plus", "new"] : List Str)
    · rw [decide_eq_true hin]
      have l4 : ∀ z ∈ (["set", "plus", "new"] : List Str), z.length ≤ 4 ∧ z ++ "0" ∉ (["get", "set", "plus", "minus", "new"] : List Str) := by decide +kernel
      have e2 : (wd ++ "0").cps.toList = f :: (r ++ [48]) := by
        show (wd.cps ++ #[48]).toList = _
        rw [Array.toList_append, ew]; rfl
      have lw := (l4 wd hin).1
      rw [len_list, ew, List.length_cons] at lw
      refine iteT ⟨_, rfl, _, _, rfl, rfl, small (by rw [len_list, ew, List.length_cons]; show r.length + 1 + 1 ≤ _; omega), q _ _ y ?_ ⟨cl, ?_, ?_⟩ (l4 wd hin).2⟩
      · refine Wd.of e2 hf (fun z hz => ?_) (by rw [List.length_append]; show r.length + 1 ≤ 11; omega)
        rcases List.mem_append.mp hz with h | h
        · exact hall z (.tail _ h)
        · rw [List.mem_singleton.mp h]; decide +kernel
      · rw [e2]
        exact List.mem_append_left [48] (show lmAt (k + sh) ∈ f :: r from hc)
      · intro z hz
        rw [e2] at hz
        rcases List.mem_append.mp (show z ∈ (f :: r) ++ [48] from hz) with h | h
        · exact hon z h
        · rw [List.mem_singleton.mp h]; exact .inr (by decide +kernel)
    · rw [decide_eq_false hin]
      refine iteF ⟨_, rfl, q _ _ y hw ht fun z => ?_⟩
      rcases (by simpa using z : wd = "get" ∨ wd = "set" ∨ wd = "plus" ∨ wd = "minus" ∨ wd = "new") with h | h | h | h | h
      · rw [h] at ht; exact no_get _ ht
      · exact hin (by rw [h]; decide)
      · exact hin (by rw [h]; decide)
      · rw [h] at ht; exact no_minus _ ht
      · exact hin (by rw [h]; decide)
end
end PK
namespace PK
open PySem L2
/-! the drawn signature, integers, leaves -/
abbrev FORMS : List Str := ["get", "set", "plus", "minus", "new"]
def SigOk (sh : Int) (sig : List (Str × Nat)) : Prop := sig.length ≤ 6 ∧ ∀ (i : Nat) (e : Str × Nat), sig[i]? = some e → Wd e.1 ∧ Tag e.1 (lmAt ((i : Nat) + sh)) ∧ e.1 ∉ FORMS ∧ e.2 ≤ 8
def sigK (sig : List (Str × Nat)) : List (Key × V) := sig.map fun e => (Sum.inr e.1, V.int (e.2 : Nat))
def spSig : Sp := fun vs H Q _ => ∃ (l c : Addr) (sh : Int), vs = [.ref l, .int sh] ∧ Pool H l c ∧ ∀ (H' : Hp) (R : Addr) (sig : List (Str × Nat)), Ext l c H H' → H R = none → H' R = some (.dK (sigK sig)) → SigOk sh sig → Q (.ref R) H'
theorem sig_no {sh : Int} {sig : List (Str × Nat)} {x : Str} (ok : SigOk sh sig) (hl : sig.length < 13) (t : Tag x (lmAt ((sig.length : Nat) + sh))) : valV (sigK sig) (Sum.inr x) = none := by
  cases e : valV (sigK sig) (Sum.inr x) with
  | none => rfl
  | some v =>
    have := (valV_any (Sum.inr x : Key) (sigK sig)).trans (by rw [e]; rfl : (valV (sigK sig) (Sum.inr x)).isSome = true)
    obtain ⟨kv, hkv, hx⟩ := List.any_eq_true.mp this
    obtain ⟨y, hy, rfl⟩ := List.mem_map.mp hkv
    have ex : y.1 = x := Sum.inr.inj (of_decide_eq_true hx)
    obtain ⟨i, hi, ei⟩ := List.mem_iff_getElem.mp hy
    have o := (ok.2 i y (by rw [List.getElem?_eq_getElem hi, ei])).2.1
    rw [ex] at o
    have := lmAt_inj (o.one t)
    omega
section
variable {P : Program} {w : World} {K : PySem.W.Frag} {mg : Str → Option Value} {base : Heap}
abbrev s_law_signature : Stmt := topS 44
theorem sc_law_signature : FnScope ["pool", "shift", "signature", "k", "many"] ["pool", "shift"] (defScope s_law_signature) := ⟨rfl, rfl, rfl, by decide +kernel, rfl, by decide +kernel, by decide +kernel⟩
-- slots: 0:pool 1:shift 2:signature 3:k 4:many
theorem ok_sig {f : Addr} {fd : FuncData} (F : Fun K "_law_signature" "_law_signature" s_law_signature f fd) (T : Txt K mg) (C_law_take : C8.Cal P w K mg base 2 "_law_take" (spTake 2) []) (C_law_word : C8.Cal P w K mg base 3 "_law_word" spLWord []) :
    FnOk P w K mg base CX0 4 f fd ["pool", "shift"] spSig := by
  refine F.ok sc_law_signature (fun vs H Q E h => ?_) (fun cdv A outer s H vs Q E hr h => ?_)
  · obtain ⟨_, _, _, rfl, _⟩ := h
    rfl
  obtain ⟨l, c, sh, rfl, P0, q⟩ := h
  refine ⟨_, (pss_cons (ps_set (i := 2) sc_law_signature.nd rfl (Or.inl rfl) pe_dnewK)
    (pss_cons (ps_for PassesOwn.never rfl (pi_range1 (by rfl) T.z_range (pa_cons (C8.pe_c C_law_take hr (by decide) rfl (pa_cons (pv 0) (pa_cons pe_int pa_nil))) pa_nil)) (pg_name (i := 3) sc_law_signature.nd rfl (Or.inl rfl)) (pss_cons (ps_set (i := 4) sc_law_signature.nd rfl (Or.inl rfl) (C8.pe_c C_law_take hr (by decide) rfl (pa_cons (pv 0) (pa_cons pe_int pa_nil))))
    (C8.pss_cut (ps_if (pt_cmpR op_eq (C8.pe_c C_law_take hr (by decide) rfl (pa_cons (pv 0) (pa_cons pe_int pa_nil))) pe_int (nomark _)) (pss_one (ps_set (i := 4) sc_law_signature.nd rfl (Or.inl rfl) (C8.pe_c C_law_take hr (by decide) rfl (pa_cons (pv 0) (pa_cons pe_int pa_nil))))) pss_nil)
    (pss_one (ps_dput (hu_of hr) (pv 2) (C8.pe_c C_law_word hr (by decide) rfl (pa_cons (pv 0) (pa_cons (pv 3) (pa_cons (pv 1) pa_nil)))) (pv 4) rfl)))))
    (pss_one (ps_ret (pv 2))))), ?_⟩
  intro R hR
  have x0 := (Ext.refl P0).new (o := .dK []) P0 hR
  have nR : R ≠ l := (P0.ne hR).1
  refine vTake rfl x0.pool (by decide) (by decide) fun d H1 d0 d7 x1 => ⟨d, rfl, by omega, by omega, for_range (n := d.toNat) (fun i σ H' => ∃ (sig : List (Str × Nat)) (a b : Option V), σ = [some (.ref l), some (.int sh), some (.ref R), a, b] ∧ Ext l c H H' ∧ H' R = some (.dK (sigK sig)) ∧ sig.length = i ∧ SigOk sh sig) ?_ ?_ ?_⟩
  · exact ⟨[], none, none, rfl, x0.trans x1, x1.keep _ _ nR upd_same, rfl, Nat.zero_le _, fun i e h => by simp at h⟩
  · rintro i σ H' hi ⟨sig, a, b, rfl, x, hs, ls, ok⟩
    refine vTake rfl x.pool (by decide) (by decide) fun m H2 m0 m4 x2 => ?_
    refine ⟨fun σ H' => ∃ m : Nat, m ≤ 8 ∧ σ = [some (.ref l), some (.int sh), some (.ref R), some (.int (0 + (i : Int))), some (.int (m : Int))] ∧ Ext l c H H' ∧ H' R = some (.dK (sigK sig)), ?_, ?_⟩
    · have y2 := x.trans x2
      have h2 := x2.keep _ _ nR hs
      refine vTake rfl x2.pool (by decide) (by decide) fun z H3 z0 z5 x3 => ⟨rfl, _, rfl, ite2 (fun e => ?_) (fun e => ?_)⟩
      · refine vTake rfl x3.pool (by decide) (by decide) fun m' H4 m0' m9 x4 => ⟨m'.toNat, by omega, by rw [show ((m'.toNat : Nat) : Int) = m' by omega]; rfl, (y2.trans x3).trans x4, x4.keep _ _ nR (x3.keep _ _ nR h2)⟩
      · exact ⟨m.toNat, by omega, by rw [show ((m.toNat : Nat) : Int) = m by omega]; rfl, y2.trans x3, x3.keep _ _ nR h2⟩
    · rintro σ' H5 ⟨m, hm, rfl, x5, h5⟩
      refine ⟨_, rfl, _, rfl, ⟨_, rfl, _, rfl, _, rfl, l, c, 0 + (i : Int), sh, rfl, x5.pool, fun H6 y x6 wy ty ny => ?_⟩⟩
      have h6 := x6.keep _ _ nR h5
      rw [Int.zero_add, ← ls] at ty
      have no := sig_no ok (by have := ok.1; omega) ty
      refine ⟨R, _, rfl, DPut.k (k := Sum.inr y) h6 (by show (sigK sig).length < _; unfold sigK; rw [List.length_map]; exact smallL (by have := ok.1; omega)), ?_⟩
      refine ⟨sig ++ [(y, m)], _, _, rfl, (x5.trans x6).upd P0 hR, ?_, by rw [List.length_append, ls]; rfl, by rw [List.length_append]; show sig.length + 1 ≤ 6; omega, fun j e he => ?_⟩
      · rw [upd_same, putK_new _ no]
        unfold sigK
        rw [List.map_append]; rfl
      · by_cases hj : j < sig.length
        · rw [List.getElem?_append_left hj] at he
          exact ok.2 j e he
        · rw [List.getElem?_append_right (by omega)] at he
          have hj0 : j = sig.length := by
            have := (List.getElem?_eq_some_iff.mp he).1
            simp at this; omega
          subst hj0
          simp at he
          subst he
          exact ⟨wy, ty, ny, hm⟩
  · rintro σ H' ⟨sig, a, b, rfl, x, hs, ls, ok⟩
    exact ⟨_, rfl, q H' R sig x hR hs ok⟩
end
end PK
namespace PK
open PySem L2
/-! terms over a drawn signature -/
abbrev SOk (x : Str) : Prop := PyData.strOk x = true
theorem Wd.sok {x : Str} (h : Wd x) : SOk x := by
  have key : ∀ s ∈ OTH.cps.toList, s < 0x110000 := by decide +kernel
  show x.cps.all (· < 0x110000) = true
  rw [← Array.all_toList, List.all_eq_true]
  exact fun s hs => decide_eq_true (key s (h.al s hs))
abbrev WOk (x : Str) : Prop := SOk x ∧ x.length ≤ 12
theorem Wd.wok {x : Str} (h : Wd x) : WOk x := ⟨h.sok, h.hi⟩
def TL (sig : List (Str × Nat)) (ms : List Str) : Tm → Prop
  | .int n => -1000000000000000 < n ∧ n < 1000000000000000
  | .name s => s ∈ ms ∧ Wd s
  | .addr n => 0 ≤ n ∧ n < 1000000000
  | .var s => s ∈ ms ∧ Wd s
  | .node c ts => Wd c ∧ (c, ts.length) ∈ sig ∧ ts.length ≤ 8
  | .map es => es.length ≤ 8 ∧ (∀ e ∈ es, e.1 ∈ ms ∧ Wd e.1) ∧ (es.map Prod.fst).Nodup ∧ PyProof.Rows.sortedS (es.map Prod.fst) = true
  | .form _ _ => False
def TOk (sig : List (Str × Nat)) (ms : List Str) : Tm → Prop := Al (TL sig ms)
theorem TOk.len {sig : List (Str × Nat)} {ms : List Str} {t : Tm} (h : TOk sig ms t) : t.kids.length ≤ 8 := by
  have := h.at_
  cases t with
  | node c ts => exact this.2.2
  | map es => show (es.map Prod.snd).length ≤ 8; rw [List.length_map]; exact this.1
  | form f ts => exact this.elim
  | _ => exact Nat.zero_le _
theorem TOk.leaf {sig : List (Str × Nat)} {ms : List Str} {t : Tm} (h : TL sig ms t) (hk : t.kids = []) : TOk sig ms t := .mk h fun k hm => by rw [hk] at hm; cases hm
/-- words as they are drawn, in a list that stands -/
structure Wl (H : Hp) (l p : Addr) (ws : List Str) : Prop where
  at_ : H p = some (.lst (ws.map V.str))
  ne : p ≠ l
  le : ws.length ≤ 100
  wd : ∀ x ∈ ws, Wd x
theorem Wl.ext {H H' : Hp} {l c p : Addr} {ws : List Str} (N : Wl H l p ws) (x : Ext l c H H') : Wl H' l p ws := ⟨x.keep _ _ N.ne N.at_, N.ne, N.le, N.wd⟩
theorem Wl.ix {K : PySem.W.Frag} {H : Hp} {l p : Addr} {ws : List Str} (N : Wl H l p ws) {d : Int} (h0 : 0 ≤ d) (h1 : d < (ws.length : Int)) {Q : VK} (q : ∀ x, x ∈ ws → Q (.str x) H) : rIxL K (.ref p) (.int d) H Q := by
  obtain ⟨j, rfl⟩ : ∃ j : Nat, d = j := ⟨d.toNat, by omega⟩
  have hj : j < ws.length := by omega
  exact ⟨p, _, j, _, rfl, rfl, SqL.of N.at_, atI_nat (by rw [List.getElem?_map, List.getElem?_eq_getElem hj]; rfl), q _ (List.getElem_mem hj)⟩
def spIntg : Sp := fun vs H Q _ => ∃ (l c : Addr), vs = [.ref l] ∧ Pool H l c ∧ ∀ (i : Int) (H' : Hp), -1000000000000000 < i ∧ i < 1000000000000000 → Ext l c H H' → Q (.int i) H'
def spLeaf (K : PySem.W.Frag) : Sp := fun vs H Q _ => ∃ (l c pw pm : Addr) (ws ms : List Str), vs = [.ref l, .ref pw, .ref pm] ∧ Pool H l c ∧ Wl H l pw ws ∧ (ws ≠ [] ∧ ∀ x ∈ ws, x ∈ ms) ∧ Wl H l pm ms ∧
  ∀ (v : V) (t : Tm) (H' : Hp), Ext l c H H' → Dt K H' v t.d → (∀ sig, TL sig ms t) → t.kids = [] → Q v H'
section
variable {P : Program} {w : World} {K : PySem.W.Frag} {mg : Str → Option Value} {base : Heap}
abbrev s_law_integer : Stmt := topS 45
theorem sc_law_integer : FnScope ["pool", "kind"] ["pool"] (defScope s_law_integer) := ⟨rfl, rfl, rfl, by decide +kernel, rfl, by decide +kernel, by decide +kernel⟩
-- slots: 0:pool 1:kind
abbrev s_law_leaf : Stmt := topS 46
theorem sc_law_leaf : FnScope ["pool", "words", "metas", "kind"] ["pool", "words", "metas"] (defScope s_law_leaf) := ⟨rfl, rfl, rfl, by decide +kernel, rfl, by decide +kernel, by decide +kernel⟩
-- slots: 0:pool 1:words 2:metas 3:kind
theorem ok_intg {f : Addr} {fd : FuncData} (F : Fun K "_law_integer" "_law_integer" s_law_integer f fd) (C_law_take : C8.Cal P w K mg base 2 "_law_take" (spTake 2) []) : FnOk P w K mg base CX0 3 f fd ["pool"] spIntg := by
  refine F.ok sc_law_integer (fun vs H Q E h => ?_) (fun cdv A outer s H vs Q E hr h => ?_)
  · obtain ⟨_, _, rfl, _⟩ := h
    rfl
  obtain ⟨l, c, rfl, P0, q⟩ := h
  refine ⟨_, (pss_cons (ps_set (i := 1) sc_law_integer.nd rfl (Or.inl rfl) (C8.pe_c C_law_take hr (by decide) rfl (pa_cons (pv 0) (pa_cons pe_int pa_nil))))
    (pss_cons (ps_if (pt_cmpR op_eq (pv 1) pe_int (nomark _)) (pss_one (ps_ret (C8.pe_c C_law_take hr (by decide) rfl (pa_cons (pv 0) (pa_cons (pe_op op_pow pe_int pe_int) pa_nil))))) pss_nil)
    (pss_cons (ps_if (pt_cmpR op_eq (pv 1) pe_int (nomark _)) (pss_one (ps_ret (pe_op op_sub pe_int (C8.pe_c C_law_take hr (by decide) rfl (pa_cons (pv 0) (pa_cons (pe_op op_pow pe_int pe_int) pa_nil)))))) pss_nil)
    (pss_one (ps_ret (pe_op op_sub (C8.pe_c C_law_take hr (by decide) rfl (pa_cons (pv 0) (pa_cons pe_int pa_nil))) pe_int)))))), ?_⟩
  have p15 : CPow 10 15 := ⟨by decide, by decide, by decide⟩
  refine vTake rfl P0 (by decide) (by decide) fun d H1 d0 d4 x1 => ⟨_, rfl, rfl, _, rfl, ite2 (fun _ => ?_) (fun _ => ⟨_, rfl, rfl, _, rfl, ite2 (fun _ => ?_) (fun _ => ?_)⟩)⟩
  · exact ⟨_, rfl, _, _, rfl, rfl, p15, l, c, 10 ^ 15, False, rfl, x1.pool, by decide, by decide, .inl (Nat.le_refl 2), fun a H2 a0 a1 x2 => q a H2 (by rw [show (10 : Int) ^ 15 = 1000000000000000 from rfl] at a1; omega) (x1.trans x2)⟩
  · exact ⟨_, rfl, _, _, rfl, rfl, p15, l, c, 10 ^ 15, False, rfl, x1.pool, by decide, by decide, .inl (Nat.le_refl 2), fun a H2 a0 a1 x2 => ⟨_, _, rfl, rfl, q _ H2 (by rw [show (10 : Int) ^ 15 = 1000000000000000 from rfl] at a1; omega) (x1.trans x2)⟩⟩
  · exact vTake rfl x1.pool (by decide) (by decide) fun a H2 a0 a1 x2 => ⟨_, _, rfl, rfl, q _ H2 (by omega) (x1.trans x2)⟩
theorem ok_leaf {f : Addr} {fd : FuncData} (F : Fun K "_law_leaf" "_law_leaf" s_law_leaf f fd) (T : Txt K mg) (C_law_take : C8.Cal P w K mg base 2 "_law_take" (spTake 2) []) (C_law_integer : C8.Cal P w K mg base 3 "_law_integer" spIntg []) :
    FnOk P w K mg base CX0 4 f fd ["pool", "words", "metas"] (spLeaf K) := by
  refine F.ok sc_law_leaf (fun vs H Q E h => ?_) (fun cdv A outer s H vs Q E hr h => ?_)
  · obtain ⟨_, _, _, _, _, _, rfl, _⟩ := h
    rfl
  obtain ⟨l, c, pw, pm, ws, ms, rfl, P0, W, nw, M, q⟩ := h
  refine ⟨_, (pss_cons (ps_set (i := 3) sc_law_leaf.nd rfl (Or.inl rfl) (C8.pe_c C_law_take hr (by decide) rfl (pa_cons (pv 0) (pa_cons pe_int pa_nil))))
    (pss_cons (ps_if (PW.pt (pw_or (pt_cmpR op_eq (pv 3) pe_int (nomark _)) (pw_or1 (PW.pt (pw_and (pt_cmpR op_eq (pv 3) pe_int (nomark _)) (pw_and1 (pt_not (pt_truth (pv 2) (by intro _; rfl))))))))) (pss_one (ps_ret (pe_tup (pa_cons pe_str (pa_cons (C8.pe_c C_law_integer hr (by decide) rfl (pa_cons (pv 0) pa_nil)) pa_nil))))) pss_nil)
    (pss_cons (ps_if (pt_cmpR op_eq (pv 3) pe_int (nomark _)) (pss_one (ps_ret (pe_tup (pa_cons pe_str (pa_cons (pe_ix ix_list (pv 1) (C8.pe_c C_law_take hr (by decide) rfl (pa_cons (pv 0) (pa_cons (pe_callB call_len_seq (by rfl) T.z_len (by decide +kernel) (pa_cons (pv 1) pa_nil)) pa_nil))) (fun _ _ => rfl)) pa_nil))))) pss_nil)
    (pss_cons (ps_if (pt_cmpR op_eq (pv 3) pe_int (nomark _)) (pss_one (ps_ret (pe_tup (pa_cons pe_str (pa_cons (pe_ix ix_tup (pe_tup (pa_cons (C8.pe_c C_law_take hr (by decide) rfl (pa_cons (pv 0) (pa_cons pe_int pa_nil))) (pa_cons (C8.pe_c C_law_take hr (by decide) rfl (pa_cons (pv 0) (pa_cons (pe_op op_pow pe_int pe_int) pa_nil))) pa_nil))) (C8.pe_c C_law_take hr (by decide) rfl (pa_cons (pv 0) (pa_cons pe_int pa_nil))) (fun _ _ => rfl)) pa_nil))))) pss_nil)
    (pss_one (ps_ret (pe_tup (pa_cons pe_str (pa_cons (pe_ix ix_list (pv 2) (C8.pe_c C_law_take hr (by decide) rfl (pa_cons (pv 0) (pa_cons (pe_callB call_len_seq (by rfl) T.z_len (by decide +kernel) (pa_cons (pv 2) pa_nil)) pa_nil))) (fun _ _ => rfl)) pa_nil))))))))), ?_⟩
  have p9 : CPow 10 9 := ⟨by decide, by decide, by decide⟩
  refine vTake rfl P0 (by decide) (by decide) fun d H1 d0 d4 x1 => ?_
  have W1 := W.ext x1
  have M1 := M.ext x1
  have two : ∀ {Hx : Hp} {v : V} {e : PyData} {s : Str} {t : Tm} {p : Addr}, Ext l c H Hx → Hx p = none → Dt K Hx v e → t.d = .tuple [.str s, e] → (∀ sig, TL sig ms t) → t.kids = [] → Q (.ref p) (upd Hx p (.tup [.str s, v])) := fun x hp dv et ok h =>
    q _ _ _ (x.new P0 hp) (by rw [et]; exact Dt.mk2 hp (.str _) dv) ok h
  have integer : ∀ {D : Ends} {σ : L2.St}, D.rt = Q → σ[0]? = some (some (.ref l)) → tRet (tTup (tCons (tC (.str "int")) (tCons (tCall spIntg [] C8.E0 (tCons (tVar 0) tNil)) tNil))) D σ H1 := fun {D σ} eD h0 => by
    refine ⟨_, h0, l, c, rfl, x1.pool, fun i H2 hi x2 => ⟨small (by show 2 ≤ _; decide), fun p hp => ?_⟩⟩
    rw [eD]
    exact two (t := .int i) (x1.trans x2) hp (.int i) (by unfold Tm.d; rfl) (fun _ => hi) rfl
  refine ⟨_, rfl, rfl, _, rfl, ite2 (fun e => integer rfl rfl) (fun e0 => ?_)⟩
  have lw : 0 < ws.length := List.length_pos_iff.mpr nw.1
  have nE : ∀ {a b : Int}, a ≠ b → ¬ decide (V.int a = V.int b) = true := fun h z => h (V.int.inj (of_decide_eq_true z))
  by_cases e3 : d = 3
  · subst e3
    refine ⟨_, rfl, rfl, _, rfl, iteT ⟨_, rfl, !(ms.map V.str).isEmpty, .inl ⟨_, SqL.of M1.at_, rfl⟩, ?_⟩⟩
    cases hms : ms with
    | nil => exact iteT (integer rfl rfl)
    | cons m0 mr =>
      have lm : 0 < ms.length := by rw [hms, List.length_cons]; omega
      rw [← hms]
      have ne : (!(!(ms.map V.str).isEmpty)) = false := by rw [hms]; rfl
      rw [ne]
      refine iteF ⟨_, rfl, rfl, _, rfl, iteF ⟨_, rfl, rfl, _, rfl, iteF ?_⟩⟩
      have llen := M1.le
      refine ⟨_, rfl, _, rfl, ⟨_, rfl, pm, ms.map V.str, rfl, .inl (SqL.of M1.at_), ⟨l, c, _, False, rfl, x1.pool, by rw [List.length_map]; omega, by rw [List.length_map]; omega, .inl (Nat.le_refl 2), fun a H2 a0 a1 x2 => ?_⟩⟩⟩
      rw [List.length_map] at a1
      refine (M1.ext x2).ix a0 a1 fun x hx => ⟨small (by show 2 ≤ _; decide), fun p hp => ?_⟩
      exact two (t := .var x) (x1.trans x2) hp (.str x) (by unfold Tm.d; rfl) (fun _ => ⟨hx, M.wd x hx⟩) rfl
  · refine ⟨_, rfl, rfl, _, rfl, ?_⟩
    rw [show decide (V.int d = V.int 3) = false from Bool.eq_false_iff.mpr (nE e3)]
    refine iteF (iteF ⟨_, rfl, rfl, _, rfl, ite2 (fun e1 => ?_) (fun e1 => ⟨_, rfl, rfl, _, rfl, ite2 (fun e2 => ?_) (fun e2 => ?_)⟩)⟩)
    · have llen := W1.le
      refine ⟨_, rfl, ⟨_, rfl, ⟨_, rfl, pw, ws.map V.str, rfl, .inl (SqL.of W1.at_), ⟨l, c, _, False, rfl, x1.pool, by rw [List.length_map]; omega, by rw [List.length_map]; omega, .inl (Nat.le_refl 2), fun a H2 a0 a1 x2 => ?_⟩⟩⟩⟩
      rw [List.length_map] at a1
      refine (W1.ext x2).ix a0 a1 fun x hx => ⟨small (by show 2 ≤ _; decide), fun p hp => ?_⟩
      exact two (t := .name x) (x1.trans x2) hp (.str x) (by unfold Tm.d; rfl) (fun _ => ⟨nw.2 x hx, W.wd x hx⟩) rfl
    · refine vTake rfl x1.pool (by decide) (by decide) fun a H2 a0 a1 x2 => ?_
      refine ⟨_, rfl, _, _, rfl, rfl, p9, l, c, 10 ^ 9, False, rfl, x2.pool, by decide, by decide, .inl (Nat.le_refl 2), fun b H3 b0 b1 x3 => ⟨small (by show 2 ≤ _; decide), fun t ht => ?_⟩⟩
      have x4 := ((x1.trans x2).trans x3).new (o := .tup [.int a, .int b]) P0 ht
      refine vTake rfl x4.pool (by decide) (by decide) fun j H4 j0 j2 x5 => ?_
      rw [show (10 : Int) ^ 9 = 1000000000 from rfl] at b1
      obtain ⟨n, e, hn⟩ : ∃ n : Int, atI [V.int a, V.int b] j = some (.int n) ∧ 0 ≤ n ∧ n < 1000000000 := by
        rcases (by omega : j = 0 ∨ j = 1) with rfl | rfl
        · exact ⟨a, rfl, by omega, by omega⟩
        · exact ⟨b, rfl, by omega, by omega⟩
      refine ⟨t, _, j, _, rfl, rfl, x5.seqT x4.pool (SqT.of upd_same), e, small (by show 2 ≤ _; decide), fun p hp => ?_⟩
      exact two (t := .addr n) (x4.trans x5) hp (.int n) (by unfold Tm.d; rfl) (fun _ => hn) rfl
    · have n1 : d ≠ 1 := fun z => e1 (by rw [z]; decide)
      have n2 : d ≠ 2 := fun z => e2 (by rw [z]; decide)
      have n0 : d ≠ 0 := fun z => e0 (by rw [z]; decide)
      omega
end
end PK
namespace PK
open PySem L2
/-! the stack of drawn terms -/
theorem cut_drop (xs : List V) (i : Nat) (h : i ≤ xs.length) : cutV xs (some (i : Int)) none = xs.drop i := by
  unfold cutV
  have e : HT.sIx xs.length 0 (some (i : Int)) = i := by
    rw [HT.sIx_nat]; omega
  rw [e, HT.sIx_none, List.take_of_length_le (by rw [List.length_drop]; omega)]
theorem cut_take (xs : List V) (i : Nat) (h : i ≤ xs.length) : cutV xs none (some (i : Int)) = xs.take i := by
  unfold cutV
  have e : HT.sIx xs.length xs.length (some (i : Int)) = i := by
    rw [HT.sIx_nat]; omega
  rw [e, HT.sIx_none, List.drop_zero]; rfl
theorem DtAll.dropD {K : PySem.W.Frag} {H : Hp} : ∀ {xs : List V} {ds : List PyData} (n : Nat), DtAll K H xs ds → DtAll K H (xs.drop n) (ds.drop n)
  | _, _, 0, h => h
  | _, _, _ + 1, .nil => .nil
  | _, _, n + 1, .cons _ t => t.dropD n
theorem DtAll.takeD {K : PySem.W.Frag} {H : Hp} : ∀ {xs : List V} {ds : List PyData} (n : Nat), DtAll K H xs ds → DtAll K H (xs.take n) (ds.take n)
  | _, _, 0, _ => .nil
  | _, _, _ + 1, .nil => .nil
  | _, _, n + 1, .cons h t => .cons h (t.takeD n)
theorem sig_get {sh : Int} {sig : List (Str × Nat)} {j : Nat} {e : Str × Nat} (ok : SigOk sh sig) (h : sig[j]? = some e) : valV (sigK sig) (Sum.inr e.1) = some (.int (e.2 : Nat)) := by
  have inj : ∀ i j : Nat, ∀ x y : Str × Nat, sig[i]? = some x → sig[j]? = some y → x.1 = y.1 → i = j := fun i j x y hx hy hxy => by
    have a := (ok.2 i x hx).2.1
    have b := (ok.2 j y hy).2.1
    rw [hxy] at a
    have := lmAt_inj (a.one b)
    have l1 := (List.getElem?_eq_some_iff.mp hx).1
    have l2 := (List.getElem?_eq_some_iff.mp hy).1
    have := ok.1
    omega
  unfold valV sigK
  cases q : (sig.map fun e => ((Sum.inr e.1 : Key), V.int (e.2 : Nat))).find? (fun kv => decide (kv.1 = Sum.inr e.1)) with
  | none =>
    have := List.find?_eq_none.mp q (Sum.inr e.1, V.int (e.2 : Nat)) (List.mem_map.mpr ⟨e, List.mem_of_getElem? h, rfl⟩)
    simp at this
  | some kv =>
    have h1 := List.mem_of_find?_eq_some q
    have h2 := List.find?_some q
    obtain ⟨y, hy, rfl⟩ := List.mem_map.mp h1
    have ey : y.1 = e.1 := Sum.inr.inj (of_decide_eq_true h2)
    obtain ⟨i, hi⟩ := List.getElem?_of_mem hy
    have := inj i j y e hi h ey
    subst this
    rw [hi] at h
    cases h
    rfl
theorem zip_snd_take {α β : Type} : ∀ (a : List α) (b : List β), (a.zip b).map Prod.snd = b.take a.length
  | [], _ => rfl
  | _ :: _, [] => rfl
  | _ :: a, y :: b => by rw [List.zip_cons_cons, List.map_cons, zip_snd_take a b]; rfl
theorem DtAll.strsE {K : PySem.W.Frag} {H : Hp} : ∀ {xs : List V} {ss : List Str}, DtAll K H xs (ss.map PyData.str) → xs = ss.map V.str
  | _, [], h => by cases h; rfl
  | _, n :: r, h => by
    cases h with
    | cons h t => rw [h.s, DtAll.strsE t]; rfl
structure TxtK (K : PySem.W.Frag) (mg : Str → Option Value) : Prop extends Txt K mg where
  z_max : mg "max" = none
  z_set : mg "set" = none
def hiN (st : List (Tm × Nat)) : Nat := st.foldr (fun e n => max (e.2 + 1) n) 0
theorem hiN_le {n : Nat} : ∀ {st : List (Tm × Nat)}, (∀ e ∈ st, e.2 + 1 ≤ n) → hiN st ≤ n
  | [], _ => Nat.zero_le _
  | e :: r, h => by
    have h1 := h e List.mem_cons_self
    have h2 := hiN_le (n := n) (st := r) fun x hx => h x (List.mem_cons_of_mem _ hx)
    show max (e.2 + 1) (hiN r) ≤ n
    omega
theorem le_hiN : ∀ {st : List (Tm × Nat)} {e : Tm × Nat}, e ∈ st → e.2 + 1 ≤ hiN st
  | x :: r, e, h => by
    show _ ≤ max (x.2 + 1) (hiN r)
    rcases List.mem_cons.mp h with rfl | h
    · omega
    · have := le_hiN h; omega
def spHigh (K : PySem.W.Frag) : Sp := fun vs H Q _ => ∃ (a : Addr) (xs : List V) (st : List (Tm × Nat)), vs = [.ref a] ∧ H a = some (.lst xs) ∧ DtAll K H xs (st.map HdD) ∧ st.length ≤ 10000 ∧ ∀ H' : Hp, Same H H' → Q (.int (hiN st : Nat)) H'
structure StOk (sig : List (Str × Nat)) (ms : List Str) (e : Tm × Nat) : Prop where
  ok : TOk sig ms e.1
  ht : e.1.ht ≤ e.2 + 1
  le : e.2 ≤ 51
def tot (st : List (Tm × Nat)) : Nat := (st.map fun e => e.1.size).sum
theorem tot_app (a b : List (Tm × Nat)) : tot (a ++ b) = tot a + tot b := by unfold tot; rw [List.map_append, List.sum_append]
def spGrown (K : PySem.W.Frag) : Sp := fun vs H Q _ => ∃ (l c S psg pw pm : Addr) (xs : List V) (st : List (Tm × Nat)) (sig : List (Str × Nat)) (ws ms : List Str) (sh : Int), vs = [.ref l, .ref S, .ref psg, .ref pw, .ref pm] ∧ Pool H l c ∧ S ≠ l ∧ H S = some (.lst xs) ∧ DtAll K H xs (st.map HdD) ∧ st.length ≤ 1000 ∧
  psg ≠ l ∧ H psg = some (.dK (sigK sig)) ∧ SigOk sh sig ∧ Wl H l pw ws ∧ (ws ≠ [] ∧ ∀ x ∈ ws, x ∈ ms) ∧ Wl H l pm ms ∧ (∀ e ∈ st, StOk sig ms e) ∧
  ∀ (H' : Hp) (S' : Addr) (xs' : List V) (st' : List (Tm × Nat)), Ext l c H H' → S' ≠ l → H' S' = some (.lst xs') → DtAll K H' xs' (st'.map HdD) → (∀ e ∈ st', StOk sig ms e) → st' ≠ [] → tot st' ≤ tot st + 1 → st'.length ≤ st.length + 1 → Q (.ref S') H'
def spTerm (K : PySem.W.Frag) : Sp := fun vs H Q _ => ∃ (l c psg pw pm : Addr) (sig : List (Str × Nat)) (ws ms : List Str) (sh : Int) (most : Nat), vs = [.ref l, .ref psg, .ref pw, .ref pm, .int (most : Nat)] ∧ Pool H l c ∧ psg ≠ l ∧ H psg = some (.dK (sigK sig)) ∧ SigOk sh sig ∧ Wl H l pw ws ∧ (ws ≠ [] ∧ ∀ x ∈ ws, x ∈ ms) ∧ Wl H l pm ms ∧ 0 < most ∧ most ≤ 500 ∧
  ∀ (v : V) (t : Tm) (H' : Hp), Ext l c H H' → Dt K H' v t.d → TOk sig ms t → t.ht ≤ 52 → t.size ≤ most → Q v H'
section
variable {P : Program} {w : World} {K : PySem.W.Frag} {mg : Str → Option Value} {base : Heap}
abbrev s_law_high : Stmt := topS 47
theorem sc_law_high : FnScope ["parts", "part"] ["parts"] (defScope s_law_high) := ⟨rfl, rfl, rfl, by decide +kernel, rfl, by decide +kernel, by decide +kernel⟩
-- slots: 0:parts 1:part(comp)
abbrev s_law_grown : Stmt := topS 48
theorem sc_law_grown : FnScope ["pool", "stack", "signature", "words", "metas", "names", "kind", "many", "parts", "terms", "rest", "chosen", "entries", "part", "k"] ["pool", "stack", "signature", "words", "metas"] (defScope s_law_grown) := ⟨rfl, rfl, rfl, by decide +kernel, rfl, by decide +kernel, by decide +kernel⟩
-- slots: 0:pool(cell) 1:stack 2:signature 3:words(cell) 4:metas 5:names 6:kind 7:many 8:parts 9:terms(cell) 10:rest 11:chosen(cell) 12:entries 13:part(comp) 14:k(comp)
abbrev s_law_term : Stmt := topS 49
theorem sc_law_term : FnScope ["pool", "signature", "words", "metas", "most", "stack", "k"] ["pool", "signature", "words", "metas", "most"] (defScope s_law_term) := ⟨rfl, rfl, rfl, by decide +kernel, rfl, by decide +kernel, by decide +kernel⟩
-- slots: 0:pool 1:signature 2:words 3:metas 4:most 5:stack 6:k
theorem ok_high {f : Addr} {fd : FuncData} (F : Fun K "_law_high" "_law_high" s_law_high f fd) (T : TxtK K mg) : FnOk P w K mg base CX0 1 f fd ["parts"] (spHigh K) := by
  refine F.ok sc_law_high (fun vs H Q E h => ?_) (fun cdv A outer s H vs Q E hr h => ?_)
  · obtain ⟨_, _, _, rfl, _⟩ := h
    rfl
  obtain ⟨a, xs, st, rfl, ha, da, ls, q⟩ := h
  refine ⟨_, (pss_one (ps_ret (pe_op op_add pe_int (pe_callB (cr_max (by rfl)) (by rfl) T.z_max (by decide +kernel) (pa_cons (pe_op op_cat (pe_lst (pa_cons (pe_un un_neg pe_int) pa_nil)) (pe_lc (own := [("part", 1)]) (g := (gName 1)) (tt := tYes) (by rfl) sc_law_high.nd (pi_list (pv 0)) (blkOk_by (N := ["parts", "part"]) (sc := defScope s_law_high) (by decide +kernel)) (fun _ _ _ _ _ => (pg_name (i := 1) sc_law_high.nd rfl (Or.inl rfl))) (fun _ _ _ _ _ => pts_nil) (fun _ _ _ _ _ => (pe_ix (r := rIxT K) ix_tup (pv 1) pe_int (fun _ _ => rfl))))) pa_nil))))), ?_⟩
  have lx : xs.length = st.length := by rw [da.lenD, List.length_map]
  refine ⟨_, rfl, small (by show 1 ≤ _; decide), fun p hp => ⟨_, rfl, a, rfl, ⟨_, SqL.of ((same_new hp) _ _ ha)⟩, fun D hD => lcS (K := K) (walk_list (xs := xs)) hD (by omega) (fun ds => ds = ((st.take ds.length).map fun e => ((e.2 : Nat) : Int)).map PyData.int) rfl (fun H' s => SqL.of (s _ _ ((same_new hp) _ _ ha))) ?_ ?_⟩⟩
  · rintro i x H1 H1 ds R hi s1 ⟨rfl, gx⟩ jd len r
    obtain ⟨d, gd, dx⟩ := DtAll.getX da gx
    rw [List.getElem?_map] at gd
    cases e0 : st[i]? with
    | none => rw [e0] at gd; cases gd
    | some e =>
    rw [e0] at gd
    cases gd
    unfold HdD at dx
    obtain ⟨a1, u1, w1, rfl, hs1, j1, j2⟩ := Dt.t2 ((dx.same (same_new hp)).same s1)
    obtain rfl := j2.i
    refine ⟨rfl, vTx rfl hs1 rfl (r (.int (e.2 : Nat)) _ H1 (Same.refl _) (.int _) ?_)⟩
    rw [List.length_append, len, show i + [PyData.int ((e.2 : Nat) : Int)].length = i + 1 from rfl, List.take_add_one, e0, List.map_append, List.map_append]
    rw [len] at jd
    rw [← jd]; rfl
  · rintro H1 ws ds s1 hws dws len jd
    rw [len, lx, List.take_length] at jd
    obtain rfl : ws = (st.map fun e => ((e.2 : Nat) : Int)).map V.int := DtAll.intsE (K := K) (H := H1) (by rw [← jd]; exact dws)
    have hpL : H1 p = some (.lst [.int (-1)]) := s1 _ _ upd_same
    refine ⟨p, D, _, _, rfl, rfl, hpL, hws, by rw [List.length_map, List.length_map]; exact small (by show 1 + _ ≤ _; omega), fun p2 hp2 => ?_⟩
    refine ⟨p2, (-1) :: (st.map fun e => ((e.2 : Nat) : Int)), rfl, SqL.of (by rw [upd_same]; rfl), by simp, fun m hm hmax => ⟨_, _, rfl, rfl, ?_⟩⟩
    have m0 : -1 ≤ m := hmax _ List.mem_cons_self
    have hn : 1 + m = ((hiN st : Nat) : Int) := by
      have h1 : ((hiN st : Nat) : Int) ≤ 1 + m := by
        have := hiN_le (n := (1 + m).toNat) (st := st) fun e he => by
          have := hmax ((e.2 : Nat) : Int) (List.mem_cons_of_mem _ (List.mem_map.mpr ⟨e, he, rfl⟩))
          omega
        omega
      rcases List.mem_cons.mp hm with e | h
      · omega
      · obtain ⟨e, he, rfl⟩ := List.mem_map.mp h
        have := le_hiN he
        omega
    show Q (.int (1 + m)) _
    rw [hn]
    exact q _ (((same_new hp).trans s1).trans (same_new hp2))
theorem ok_grown {f : Addr} {fd : FuncData} (F : Fun K "_law_grown" "_law_grown" s_law_grown f fd) (T : TxtK K mg) (C_law_take : C8.Cal P w K mg base 2 "_law_take" (spTake 2) []) (C_law_leaf : C8.Cal P w K mg base 4 "_law_leaf" (spLeaf K) []) (C_law_high : C8.Cal P w K mg base 1 "_law_high" (spHigh K) []) :
    FnOk P w K mg base CX0 5 f fd ["pool", "stack", "signature", "words", "metas"] (spGrown K) := by
  refine F.ok sc_law_grown (fun vs H Q E h => ?_) (fun cdv A outer s H vs Q E hr h => ?_)
  · obtain ⟨_, _, _, _, _, _, _, _, _, _, _, _, rfl, _⟩ := h
    rfl
  obtain ⟨l, c, S, psg, pw, pm, xs, st, sig, ws, ms, sh, rfl, P0, nS, hS, dst, lst, nsg, hsg, sok, W, nw, M, sto, q⟩ := h
  refine ⟨_, (pss_cons (ps_set (i := 5) sc_law_grown.nd rfl (Or.inl rfl) (pe_callTy (call_listD (by rfl)) (by rfl) T.z_list (by decide +kernel) (pa_cons (pv 2) pa_nil)))
    (pss_cons (ps_set (i := 6) sc_law_grown.nd rfl (Or.inl rfl) (C8.pe_c C_law_take hr (by decide) rfl (pa_cons (pv 0) (pa_cons (pe_op op_add pe_int (pe_callB call_len_seq (by rfl) T.z_len (by decide +kernel) (pa_cons (pv 5) pa_nil))) pa_nil))))
    (pss_cons (ps_if (pt_cmpR op_lt (pv 6) pe_int (nomark _)) (pss_one (ps_ret (pe_op op_cat (pv 1) (pe_lst (pa_cons (pe_tup (pa_cons (C8.pe_c C_law_leaf hr (by decide) rfl (pa_cons (pv 0) (pa_cons (pv 3) (pa_cons (pv 4) pa_nil)))) (pa_cons pe_int pa_nil))) pa_nil))))) pss_nil)
    (pss_cons (ps_set (i := 7) sc_law_grown.nd rfl (Or.inl rfl) (C8.pe_c C_law_take hr (by decide) rfl (pa_cons (pv 0) (pa_cons pe_int pa_nil))))
    (C8.pss_cut (ps_if (pt_cmpR op_gt (pv 6) pe_int (nomark _)) (pss_one (ps_set (i := 7) sc_law_grown.nd rfl (Or.inl rfl) (pe_dget (hu_of hr) (pv 2) (pe_ix ix_list (pv 5) (pe_op op_sub (pv 6) pe_int) (fun _ _ => rfl)) (fun _ _ => rfl)))) pss_nil)
    (pss_cons (ps_set (i := 8) sc_law_grown.nd rfl (Or.inl rfl) (pe_slice sl_list (pv 1) (po_some (pe_op op_sub (pe_callB call_len_seq (by rfl) T.z_len (by decide +kernel) (pa_cons (pv 1) pa_nil)) (pe_callB (call_min2 (by rfl)) (by rfl) T.z_min (by decide +kernel) (pa_cons (pv 7) (pa_cons (pe_callB call_len_seq (by rfl) T.z_len (by decide +kernel) (pa_cons (pv 1) pa_nil)) pa_nil))))) po_none))
    (pss_cons (ps_if (PW.pt (pw_or (pt_cmpR op_lt (pe_callB call_len_seq (by rfl) T.z_len (by decide +kernel) (pa_cons (pv 8) pa_nil)) (pv 7) (nomark _)) (pw_or1 (pt_cmpR op_gt (C8.pe_c C_law_high hr (by decide) rfl (pa_cons (pv 8) pa_nil)) pe_int (nomark _))))) (pss_one (ps_ret (pe_op op_cat (pv 1) (pe_lst (pa_cons (pe_tup (pa_cons (C8.pe_c C_law_leaf hr (by decide) rfl (pa_cons (pv 0) (pa_cons (pv 3) (pa_cons (pv 4) pa_nil)))) (pa_cons pe_int pa_nil))) pa_nil))))) pss_nil)
    (pss_cons (ps_set (i := 9) sc_law_grown.nd rfl (Or.inr rfl) (pe_lc (own := [("part", 13)]) (g := (gName 13)) (tt := tYes) (by rfl) sc_law_grown.nd (pi_list (pv 8)) (blkOk_by (N := ["pool", "stack", "signature", "words", "metas", "names", "kind", "many", "parts", "terms", "rest", "chosen", "entries", "part", "k"]) (sc := defScope s_law_grown) (by decide +kernel)) (fun _ _ _ _ _ => (pg_name (i := 13) sc_law_grown.nd rfl (Or.inl rfl))) (fun _ _ _ _ _ => pts_nil) (fun _ _ _ _ _ => (pe_ix (r := rIxT K) ix_tup (pv 13) pe_int (fun _ _ => rfl)))))
    (pss_cons (ps_set (i := 10) sc_law_grown.nd rfl (Or.inl rfl) (pe_slice sl_list (pv 1) po_none (po_some (pe_op op_sub (pe_callB call_len_seq (by rfl) T.z_len (by decide +kernel) (pa_cons (pv 1) pa_nil)) (pv 7)))))
    (C8.pss_cut (ps_if (pt_cmpR op_gt (pv 6) pe_int (nomark _)) (pss_one (ps_ret (pe_op op_cat (pv 10) (pe_lst (pa_cons (pe_tup (pa_cons (pe_tup (pa_cons pe_str (pa_cons (pe_ix ix_list (pv 5) (pe_op op_sub (pv 6) pe_int) (fun _ _ => rfl)) (pa_cons (pe_callTy call_tuple_of (by rfl) T.z_tuple (by decide +kernel) (pa_cons (pv 9) pa_nil)) pa_nil)))) (pa_cons (C8.pe_c C_law_high hr (by decide) rfl (pa_cons (pv 8) pa_nil)) pa_nil))) pa_nil))))) pss_nil)
    (pss_cons (ps_set (i := 11) sc_law_grown.nd rfl (Or.inr rfl) (pe_callB (PKT.cr_sortX (by rfl)) (by rfl) T.z_sorted (by decide +kernel) (pa_cons (pe_callTy (PKT.cr_setS (by rfl)) (by rfl) T.z_set (by decide +kernel) (pa_cons (pe_lc (own := [("k", 14)]) (g := (gName 14)) (tt := tYes) (by rfl) sc_law_grown.nd (pi_range1 (by rfl) T.z_range (pa_cons (pv 7) pa_nil)) (blkOk_by (N := ["pool", "stack", "signature", "words", "metas", "names", "kind", "many", "parts", "terms", "rest", "chosen", "entries", "part", "k"]) (sc := defScope s_law_grown) (by decide +kernel)) (fun _ _ _ _ _ => (pg_name (i := 14) sc_law_grown.nd rfl (Or.inl rfl))) (fun _ _ _ _ _ => pts_nil) (fun _ _ _ _ _ => (pe_ix (r := rIxL K) ix_list (pv 3) (C8.pe_c C_law_take hr (by decide) rfl (pa_cons (pv 0) (pa_cons (pe_callB (id := "len") (r := rLenS K) call_lenS (by rfl) T.z_len (by decide +kernel) (pa_cons (pv 3) pa_nil)) pa_nil))) (fun _ _ => rfl)))) pa_nil)) pa_nil)))
    (pss_cons (ps_set (i := 12) sc_law_grown.nd rfl (Or.inl rfl) (pe_callTy call_tuple_of (by rfl) T.z_tuple (by decide +kernel) (pa_cons (pe_lc (own := [("k", 14)]) (g := (gName 14)) (tt := tYes) (by rfl) sc_law_grown.nd (pi_range1 (by rfl) T.z_range (pa_cons (pe_callB call_len_seq (by rfl) T.z_len (by decide +kernel) (pa_cons (pv 11) pa_nil)) pa_nil)) (blkOk_by (N := ["pool", "stack", "signature", "words", "metas", "names", "kind", "many", "parts", "terms", "rest", "chosen", "entries", "part", "k"]) (sc := defScope s_law_grown) (by decide +kernel)) (fun _ _ _ _ _ => (pg_name (i := 14) sc_law_grown.nd rfl (Or.inl rfl))) (fun _ _ _ _ _ => pts_nil) (fun _ _ _ _ _ => (pe_tup (pa_cons (pe_ix (r := rIxL K) ix_list (pv 11) (pv 14) (fun _ _ => rfl)) (pa_cons (pe_ix (r := rIxL K) ix_list (pv 9) (pv 14) (fun _ _ => rfl)) pa_nil))))) pa_nil)))
    (pss_one (ps_ret (pe_op op_cat (pv 10) (pe_lst (pa_cons (pe_tup (pa_cons (pe_tup (pa_cons pe_str (pa_cons (pv 12) pa_nil))) (pa_cons (C8.pe_c C_law_high hr (by decide) rfl (pa_cons (pv 8) pa_nil)) pa_nil))) pa_nil))))))))))))))))), ?_⟩
  have lx : xs.length = st.length := by rw [dst.lenD, List.length_map]
  refine ⟨_, rfl, psg, sigK sig, rfl, .inl hsg, fun N hN => ?_⟩
  have x0 := (Ext.refl P0).new (o := .lst ((sigK sig).map fun kv => kV kv.1)) P0 hN
  have nN : N ≠ l := (P0.ne hN).1
  have lsg := sok.1
  refine ⟨_, rfl, _, rfl, N, _, rfl, .inl (SqL.of upd_same), _, _, rfl, rfl, ?_⟩
  have lsg' : ((sigK sig).map fun kv => kV kv.1).length = sig.length := by unfold sigK; rw [List.length_map, List.length_map]
  have hN1 : (sigK sig).map (fun kv => kV kv.1) = sig.map fun e => V.str e.1 := by unfold sigK; rw [List.map_map]; rfl
  rw [hN1] at x0
  rw [show (fun kv => kV kv.1) = (fun (kv : Key × V) => kV kv.1) from rfl, hN1]
  refine ⟨l, c, 3 + (((sigK sig).map fun kv => kV kv.1).length : Nat), False, by rw [hN1]; rfl, x0.pool, by omega, by omega, .inl (Nat.le_refl 2), fun kd H1 k0 k1 x1 => ?_⟩
  have leafEnd : ∀ {D : Ends} {σ : L2.St} {Hx : Hp}, D.rt = Q → σ[0]? = some (some (.ref l)) → σ[1]? = some (some (.ref S)) → σ[3]? = some (some (.ref pw)) → σ[4]? = some (some (.ref pm)) → Ext l c H Hx →
      tRet (tOp rCat (tVar 1) (tLst (tCons (tTup (tCons (tCall (spLeaf K) [] C8.E0 (tCons (tVar 0) (tCons (tVar 3) (tCons (tVar 4) tNil)))) (tCons (tC (.int 0)) tNil))) tNil))) D σ Hx := fun {D σ Hx} eD h0 h1 h3 h4 x => by
    refine ⟨_, h1, _, h0, _, h3, _, h4, l, c, pw, pm, ws, ms, rfl, x.pool, W.ext x, nw, M.ext x, fun v t H2 y dv tl hk => ⟨small (by show 2 ≤ _; decide), fun p hp => ⟨small (by show 1 ≤ _; decide), fun p2 hp2 => ?_⟩⟩⟩
    have y1 := x.trans y
    have y2 := y1.new (o := .tup [v, .int 0]) P0 hp
    have y3 := y2.new (o := .lst [.ref p]) P0 hp2
    have hS3 := y3.keep _ _ nS hS
    refine ⟨S, p2, xs, _, rfl, rfl, hS3, upd_same, by rw [lx]; exact small (by show _ + 1 ≤ _; omega), fun p3 hp3 => ?_⟩
    have y4 := y3.new (o := .lst (xs ++ [.ref p])) P0 hp3
    rw [eD]
    refine q _ p3 _ (st ++ [(t, 0)]) y4 (y3.pool.ne hp3).1 upd_same ?_ (fun e he => ?_) (by simp) ?_ (by rw [List.length_append]; exact Nat.le_refl _)
    · rw [List.map_append]
      refine (dst.ext P0 y4).append (.cons ?_ .nil)
      have d1 : Dt K (upd H2 p (.tup [v, .int 0])) (.ref p) (HdD (t, 0)) := Dt.mk2 hp dv (.int 0)
      exact (d1.new hp2).new hp3
    · rcases List.mem_append.mp he with h | h
      · exact sto e h
      · rw [List.mem_singleton.mp h]
        exact ⟨.leaf (tl sig) hk, by rw [Tm.ht_eq, hk]; exact Nat.le_refl _, Nat.zero_le _⟩
    · rw [tot_app]
      have : t.size = 1 := by rw [Tm.size_eq, hk]; rfl
      show tot st + (t.size + 0) ≤ _
      omega
  refine ⟨_, rfl, _, _, rfl, rfl, _, rfl, ite2 (fun e => leafEnd rfl rfl rfl rfl rfl (x0.trans x1)) (fun e => ?_)⟩
  have kd2 : 2 ≤ kd := by have := of_decide_eq_false (Bool.eq_false_iff.mpr e); omega
  refine vTake rfl x1.pool (by decide) (by decide) fun m0 H2 m00 m6 x2 => ?_
  have x02 := (x0.trans x1).trans x2
  have hN2 := x2.keep _ _ nN (x1.keep _ _ nN upd_same)
  refine ⟨fun σ' H' => ∃ many : Nat, many ≤ 8 ∧ (2 < kd → ∃ cn, sig[(kd - 3).toNat]? = some (cn, many)) ∧ σ' = [some (.ref l), some (.ref S), some (.ref psg), some (.ref pw), some (.ref pm), some (.ref N), some (.int kd), some (.int many), none, none, none, none, none, none, none] ∧ H' = H2, ?_, ?_⟩
  · refine ⟨_, rfl, _, _, rfl, rfl, _, rfl, ite2 (fun e2 => ?_) (fun e2 => ?_)⟩
    · have k3 : 2 < kd := of_decide_eq_true e2
      rw [lsg'] at k1
      obtain ⟨j, ej⟩ : ∃ j : Nat, kd - 3 = j := ⟨(kd - 3).toNat, by omega⟩
      have hj : j < sig.length := by omega
      have gj : sig[j]? = some sig[j] := List.getElem?_eq_getElem hj
      refine ⟨_, rfl, _, rfl, ⟨_, rfl, _, _, rfl, rfl, N, _, kd - 3, _, rfl, rfl, SqL.of hN2, by rw [ej]; exact atI_nat (by rw [List.getElem?_map, gj]; rfl), ?_⟩⟩
      refine ⟨psg, .int (sig[j].2 : Nat), rfl, ?_, sig[j].2, (sok.2 j _ gj).2.2.2, fun _ => ⟨sig[j].1, by rw [ej]; exact gj⟩, rfl, rfl⟩
      have := DGet.k (k := Sum.inr sig[j].1) (x02.keep _ _ nsg hsg)
      rw [sig_get sok gj] at this
      exact this
    · have : ¬ 2 < kd := of_decide_eq_false (Bool.eq_false_iff.mpr e2)
      exact ⟨m0.toNat, by omega, fun z => absurd z this, by rw [show ((m0.toNat : Nat) : Int) = m0 by omega]; rfl, rfl⟩
  rintro σ' H' ⟨many, hm8, hcn, rfl, rfl⟩
  have hS2 := x02.keep _ _ nS hS
  refine ⟨_, rfl, ⟨_, rfl, S, _, rfl, .inl (SqL.of hS2), ⟨_, rfl, _, rfl, S, _, rfl, .inl (SqL.of hS2), _, _, rfl, _, _, rfl, rfl, _, rfl, S, xs, rfl, SqL.of hS2, fun Pp hPp => ?_⟩⟩⟩
  obtain ⟨dd, edd⟩ : ∃ dd : Nat, dd = xs.length - min many xs.length := ⟨_, rfl⟩
  have ei : ((xs.length : Nat) : Int) - (if ((xs.length : Nat) : Int) < (many : Int) then ((xs.length : Nat) : Int) else (many : Int)) = (dd : Int) := by
    split <;> omega
  rw [ei, cut_drop xs dd (by omega)]
  have x3 := x02.new (o := .lst (xs.drop dd)) P0 hPp
  have nP : Pp ≠ l := (x02.pool.ne hPp).1
  have hP3 : (upd H' Pp (.lst (xs.drop dd))) Pp = some (.lst (xs.drop dd)) := upd_same
  have hN3 := (same_new (o := .lst (xs.drop dd)) hPp) _ _ hN2
  generalize upd H' Pp (.lst (xs.drop dd)) = H3 at x3 hP3 hN3 ⊢
  have dP : DtAll K H3 (xs.drop dd) ((st.drop dd).map HdD) := by rw [List.map_drop]; exact (dst.ext P0 x3).dropD dd
  refine ⟨_, rfl, Pp, _, rfl, .inl (SqL.of hP3), _, rfl, _, _, rfl, rfl, _, rfl, ite2 (fun e2 => iteT (leafEnd rfl rfl rfl rfl rfl x3)) (fun e2 => ?_)⟩
  have lP : (xs.drop dd).length = many := by
    have := of_decide_eq_false (Bool.eq_false_iff.mpr e2)
    rw [List.length_drop] at this ⊢
    omega
  have lm : many ≤ xs.length := by rw [List.length_drop] at lP; omega
  refine ⟨_, rfl, Pp, _, st.drop dd, rfl, hP3, dP, by rw [List.length_drop]; omega, fun H4 s4 => ⟨_, _, rfl, rfl, _, rfl, ite2 (fun e3 => leafEnd rfl rfl rfl rfl rfl (x3.same s4)) (fun e3 => ?_)⟩⟩
  have hi50 : hiN (st.drop dd) ≤ 50 := by have := of_decide_eq_false (Bool.eq_false_iff.mpr e3); omega
  have x4 := x3.same s4
  have hP4 := s4 _ _ hP3
  have dP4 := dP.same s4
  clear leafEnd
  refine ⟨_, rfl, Pp, rfl, ⟨_, SqL.of hP4⟩, fun D hD => lcS (K := K) (walk_list (xs := xs.drop dd)) hD (by omega) (fun ds => ds = ((st.drop dd).take ds.length).map fun e => e.1.d) rfl (fun H' s => SqL.of (s _ _ hP4)) ?_ ?_⟩
  · rintro i x H1 H1 ds R hi s1 ⟨rfl, gx⟩ jd len r
    obtain ⟨d, gd, dx⟩ := DtAll.getX dP4 gx
    rw [List.getElem?_map] at gd
    cases e0 : (st.drop dd)[i]? with
    | none => rw [e0] at gd; cases gd
    | some e =>
    rw [e0] at gd
    cases gd
    unfold HdD at dx
    obtain ⟨a1, u1, w1, rfl, hs1, j1, j2⟩ := Dt.t2 (dx.same s1)
    refine ⟨rfl, vTx rfl hs1 rfl (r e.1.d _ H1 (Same.refl _) j1 ?_)⟩
    rw [List.length_append, len, show i + [e.1.d].length = i + 1 from rfl, List.take_add_one, e0, List.map_append]
    rw [len] at jd
    rw [← jd]; rfl
  rintro H5 wts ds s5 hD5 dts len jd
  rw [len, show (xs.drop dd).length = (st.drop dd).length by rw [List.length_drop, List.length_drop, lx], List.take_length] at jd
  subst jd
  have x5 := x4.same s5
  have nD : D ≠ l := (x4.pool.ne hD).1
  have hS5 := x5.keep _ _ nS hS
  refine ⟨_, rfl, ⟨_, rfl, S, _, rfl, .inl (SqL.of hS5), _, rfl, _, _, rfl, rfl, _, rfl, S, xs, rfl, SqL.of hS5, fun R hR => ?_⟩⟩
  have ei2 : ((xs.length : Nat) : Int) - (many : Int) = (dd : Int) := by omega
  rw [ei2, cut_take xs dd (by omega)]
  have x6 := x5.new (o := .lst (xs.take dd)) P0 hR
  have nR : R ≠ l := (x5.pool.ne hR).1
  have hR6 : (upd H5 R (.lst (xs.take dd))) R = some (.lst (xs.take dd)) := upd_same
  have s46 : Same H4 (upd H5 R (.lst (xs.take dd))) := s5.trans (same_new hR)
  have hD6 : (upd H5 R (.lst (xs.take dd))) D = some (.lst wts) := (same_new hR) _ _ hD5
  have dts6 := dts.same (same_new (o := .lst (xs.take dd)) hR)
  generalize upd H5 R (.lst (xs.take dd)) = H6 at x6 hR6 s46 hD6 dts6 ⊢
  have hP6 := s46 _ _ hP4
  have dP6 := dP4.same s46
  have hN6 := s46 _ _ (s4 _ _ hN3)
  have totd : tot (st.take dd) + tot (st.drop dd) = tot st := by rw [← tot_app, List.take_append_drop]
  have kok : ∀ e ∈ st.drop dd, TOk sig ms e.1 ∧ e.1.ht ≤ hiN (st.drop dd) := fun e he => by
    have o := sto e (List.mem_of_mem_drop he)
    have := le_hiN he
    have := o.ht
    exact ⟨o.ok, by omega⟩
  have lst2 : (st.drop dd).length = many := by rw [List.length_drop, ← lx, ← List.length_drop]; exact lP
  -- what is told at the end
  have done : ∀ (Hx : Hp) (p p2 p3 : Addr) (v : V) (t : Tm), Ext l c H Hx → Dt K Hx v t.d → TOk sig ms t → t.ht ≤ hiN (st.drop dd) + 1 → t.size ≤ 1 + tot (st.drop dd) → Hx p = none → (upd Hx p (.tup [v, .int (hiN (st.drop dd) : Nat)])) p2 = none → (upd (upd Hx p (.tup [v, .int (hiN (st.drop dd) : Nat)])) p2 (.lst [.ref p])) p3 = none →
      Q (.ref p3) (upd (upd (upd Hx p (.tup [v, .int (hiN (st.drop dd) : Nat)])) p2 (.lst [.ref p])) p3 (.lst (xs.take dd ++ [.ref p]))) := fun Hx p p2 p3 v t x dv tok tht tsz hp hp2 hp3 => by
    have y2 := x.new (o := .tup [v, .int (hiN (st.drop dd) : Nat)]) P0 hp
    have y3 := y2.new (o := .lst [.ref p]) P0 hp2
    have y4 := y3.new (o := .lst (xs.take dd ++ [.ref p])) P0 hp3
    refine q _ p3 _ (st.take dd ++ [(t, hiN (st.drop dd))]) y4 (y3.pool.ne hp3).1 upd_same ?_ (fun e he => ?_) (by simp) ?_ ?_
    · rw [List.map_append, List.map_take]
      refine ((dst.ext P0 y4).takeD dd).append (.cons ?_ .nil)
      have d1 : Dt K (upd Hx p (.tup [v, .int (hiN (st.drop dd) : Nat)])) (.ref p) (HdD (t, hiN (st.drop dd))) := Dt.mk2 hp dv (.int _)
      exact (d1.new hp2).new hp3
    · rcases List.mem_append.mp he with h | h
      · exact sto e (List.mem_of_mem_take h)
      · rw [List.mem_singleton.mp h]
        exact ⟨tok, tht, by show hiN _ ≤ 51; omega⟩
    · rw [tot_app]
      show tot (st.take dd) + (t.size + 0) ≤ _
      omega
    · rw [List.length_append, List.length_take]
      show min dd st.length + 1 ≤ _
      omega
  have lt := xs.length_take_le dd
  refine ⟨fun σ' H' => ¬ 2 < kd ∧ σ' = [some (.ref l), some (.ref S), some (.ref psg), some (.ref pw), some (.ref pm), some (.ref N), some (.int kd), some (.int many), some (.ref Pp), some (.ref D), some (.ref R), none, none, none, none] ∧ H' = H6, ?_, ?_⟩
  · refine ⟨_, rfl, _, _, rfl, rfl, _, rfl, ite2 (fun e4 => ?_) (fun e4 => ⟨of_decide_eq_false (Bool.eq_false_iff.mpr e4), rfl, rfl⟩)⟩
    have k3 : 2 < kd := of_decide_eq_true e4
    obtain ⟨cn, hcn⟩ := hcn k3
    obtain ⟨j, ej⟩ : ∃ j : Nat, kd - 3 = j := ⟨(kd - 3).toNat, by omega⟩
    have hcn' : sig[j]? = some (cn, many) := by rw [ej] at hcn; exact hcn
    refine ⟨_, rfl, _, rfl, ⟨_, rfl, _, _, rfl, rfl, N, _, kd - 3, _, rfl, rfl, SqL.of hN6, by rw [ej]; exact atI_nat (by rw [List.getElem?_map, hcn']; rfl), ?_⟩⟩
    refine ⟨_, rfl, D, _, rfl, .inl ⟨SqL.of hD6, fun p1 hp1 => ⟨small (by show 3 ≤ _; decide), fun p2 hp2 => ?_⟩⟩⟩
    have s2 := (same_new (o := .tup wts) hp1).trans (same_new (o := .tup [.str "node", .str cn, .ref p1]) hp2)
    refine ⟨_, rfl, Pp, _, st.drop dd, rfl, s2 _ _ hP6, dP6.same s2, by omega, fun H7 s7 => ⟨small (by show 2 ≤ _; decide), fun p3 hp3 => ⟨small (by show 1 ≤ _; decide), fun p4 hp4 => ?_⟩⟩⟩
    have s3 := ((s2.trans s7).trans (same_new (o := .tup [.ref p2, .int (hiN (st.drop dd) : Nat)]) hp3)).trans (same_new (o := .lst [.ref p3]) hp4)
    refine ⟨R, p4, _, _, rfl, rfl, s3 _ _ hR6, upd_same, small (by show _ + 1 ≤ _; omega), fun p5 hp5 => ?_⟩
    refine done H7 p3 p4 p5 (.ref p2) (.node cn ((st.drop dd).map Prod.fst)) (x6.same (s2.trans s7)) ?_ ?_ ?_ ?_ hp3 hp4 hp5
    · refine Dt.same ?_ s7
      unfold Tm.d
      rw [Tm.ds_map, List.map_map]
      exact Dt.mk3 hp2 (.str _) (.str _) (.tup (SqT.of upd_same) (dts6.same (same_new hp1)))
    · refine .mk ⟨(sok.2 j _ hcn').1, ?_, ?_⟩ fun k hk => ?_
      · rw [List.length_map, lst2]; exact List.mem_of_getElem? hcn'
      · rw [List.length_map, lst2]; exact hm8
      · obtain ⟨e, he, rfl⟩ := List.mem_map.mp hk
        exact (kok e he).1
    · refine Tm.ht_le fun k hk => ?_
      obtain ⟨e, he, rfl⟩ := List.mem_map.mp hk
      exact (kok e he).2
    · rw [Tm.size_eq]
      show 1 + (((st.drop dd).map Prod.fst).map Tm.size).sum ≤ _
      rw [List.map_map]
      exact Nat.le_refl _
  rintro σ' H' ⟨nk, rfl, rfl⟩
  refine ⟨_, rfl, many, rfl, by omega, by omega, fun D2 hD2 => lcX (K := K) (walk_range (lo := 0) (n := ((many : Nat) : Int).toNat)) x6.pool hD2 (by omega) (fun ds => ∃ ss : List Str, ds = ss.map PyData.str ∧ ∀ s ∈ ss, s ∈ ws) ⟨[], rfl, fun _ h => absurd h List.not_mem_nil⟩ (fun _ _ => trivial) ?_ ?_⟩
  · rintro i x H7 H7 ds R' hi x7 ⟨rfl, rfl⟩ ⟨ss, rfl, hss⟩ len r
    have W7 := (W.ext x6).ext x7
    have lw := W7.le
    have lw0 : 0 < ws.length := List.length_pos_iff.mpr nw.1
    refine ⟨rfl, _, rfl, _, rfl, _, rfl, pw, ws.map V.str, rfl, .inl (SqL.of W7.at_), l, c, ((ws.map V.str).length : Nat), False, rfl, x7.pool, by rw [List.length_map]; omega, by rw [List.length_map]; omega, .inl (Nat.le_refl 2), fun a H8 a0 a1 x8 => ?_⟩
    rw [List.length_map] at a1
    refine (W7.ext x8).ix a0 a1 fun s hs => r (.str s) _ _ x8 (.str s) ⟨ss ++ [s], by rw [List.map_append]; rfl, fun z hz => ?_⟩
    rcases List.mem_append.mp hz with h | h
    · exact hss z h
    · rw [List.mem_singleton.mp h]; exact hs
  rintro H7 vs7 ds7 x7 hv7 da7 len7 ⟨ss, rfl, hss⟩
  rw [List.length_map] at len7
  obtain rfl : vs7 = ss.map V.str := da7.strsE
  refine ⟨D2, ss, rfl, SqL.of hv7, by omega, fun a l' ha met nd => ⟨a, l', rfl, upd_same, by have := met.1; omega, fun zs p per srt hp => ?_⟩⟩
  have lz : zs.length ≤ many := by have := met.1; rw [per.length_eq]; omega
  have zw : ∀ z ∈ zs, z ∈ ws := fun z hz => hss z (List.mem_of_mem_take ((met.2 z).mp (per.mem_iff.mp hz)))
  have x9 := ((x6.trans x7).new (o := PKT.SetX _ _ a l') P0 ha).new (o := .lst (zs.map V.str)) P0 hp
  have nl : ∀ {q : Addr} {o : HO}, q ≠ l → H' q = some o → (upd (upd H7 a (PKT.SetX P w a l')) p (.lst (zs.map V.str))) q = some o := fun {q o} hq e => by
    have e7 := x7.keep _ _ hq e
    have e8 := (same_new (o := PKT.SetX P w a l') ha) _ _ e7
    exact (same_new (o := .lst (zs.map V.str)) hp) _ _ e8
  have hp9 : (upd (upd H7 a (PKT.SetX P w a l')) p (.lst (zs.map V.str))) p = some (.lst (zs.map V.str)) := upd_same
  have hD9 := nl nD hD6
  have hR9 := nl nR hR6
  have hP9 := nl nP hP6
  have seq9 : ∀ {vs : List V} {ds : List PyData}, DtAll K H' vs ds → DtAll K (upd (upd H7 a (PKT.SetX P w a l')) p (.lst (zs.map V.str))) vs ds := fun h => ((h.ext x6.pool x7).same (same_new ha)).same (same_new hp)
  have dts9 := seq9 dts6
  have dP9 := seq9 dP6
  have lt2 : wts.length = many := by rw [dts9.lenD, List.length_map, lst2]
  have lzt : (zs.zip ((st.drop dd).map Prod.fst)).length = zs.length := by rw [List.length_zip, List.length_map, lst2]; omega
  refine ⟨_, rfl, p, _, rfl, .inl (SqL.of hp9), _, rfl, by rw [List.length_map]; omega, by rw [List.length_map]; omega, fun D3 hD3 => lcS (K := K) (walk_range (lo := 0) (n := (((zs.map V.str).length : Nat) : Int).toNat)) hD3 (by rw [List.length_map]; omega) (fun ds => ds = ((zs.zip ((st.drop dd).map Prod.fst)).take ds.length).map Tm.ent) rfl (fun _ _ => trivial) ?_ ?_⟩
  · rintro i x H1 H1 ds R' hi s1 ⟨rfl, rfl⟩ jd len r
    rw [List.length_map] at hi
    have hi' : i < zs.length := by omega
    have gz : zs[i]? = some zs[i] := List.getElem?_eq_getElem hi'
    have gt : ((st.drop dd).map fun e => e.1.d)[i]? = some ((st.drop dd)[i]'(by omega)).1.d := by rw [List.getElem?_map, List.getElem?_eq_getElem (by omega)]; rfl
    obtain ⟨y, gy, dy⟩ := DtAll.getD dts9 gt
    have e0 : (0 : Int) + (i : Int) = (i : Int) := Int.zero_add _
    refine ⟨rfl, _, rfl, _, rfl, p, _, (0 : Int) + (i : Int), _, rfl, rfl, SqL.of (s1 _ _ hp9), by rw [e0]; exact atI_nat (by rw [List.getElem?_map, gz]; rfl), _, rfl, _, rfl, D, _, (0 : Int) + (i : Int), _, rfl, rfl, SqL.of (s1 _ _ hD9), by rw [e0]; exact atI_nat gy, small (by show 2 ≤ _; decide), fun q2 hq2 => ?_⟩
    refine r (Tm.ent (zs[i], ((st.drop dd)[i]'(by omega)).1)) _ _ (same_new hq2) (Dt.mk2 hq2 (.str _) (dy.same s1)) ?_
    have gzip : (zs.zip ((st.drop dd).map Prod.fst))[i]? = some (zs[i], ((st.drop dd)[i]'(by omega)).1) := by
      rw [List.getElem?_zip_eq_some]
      exact ⟨gz, by rw [List.getElem?_map, List.getElem?_eq_getElem (by omega)]; rfl⟩
    rw [List.length_append, len, show i + [Tm.ent (zs[i], ((st.drop dd)[i]'(by omega)).1)].length = i + 1 from rfl, List.take_add_one, gzip, List.map_append]
    rw [len] at jd
    rw [← jd]; rfl
  rintro H10 vs10 ds10 s10 hv10 da10 len10 jd
  rw [len10, List.length_map, show (((zs.length : Nat) : Int)).toNat = (zs.zip ((st.drop dd).map Prod.fst)).length by rw [lzt]; omega, List.take_length] at jd
  subst jd
  refine ⟨D3, _, rfl, .inl ⟨SqL.of hv10, fun p5 hp5 => ?_⟩⟩
  refine ⟨_, rfl, _, rfl, small (by show 2 ≤ _; decide), fun p6 hp6 => ?_⟩
  have s11 := (s10.trans (same_new (o := .tup vs10) hp5)).trans (same_new (o := .tup [.str "map", .ref p5]) hp6)
  refine ⟨_, rfl, Pp, _, st.drop dd, rfl, s11 _ _ hP9, dP9.same s11, by omega, fun H12 s12 => ⟨small (by show 2 ≤ _; decide), fun p7 hp7 => ⟨small (by show 1 ≤ _; decide), fun p8 hp8 => ?_⟩⟩⟩
  have s13 := ((s11.trans s12).trans (same_new (o := .tup [.ref p6, .int (hiN (st.drop dd) : Nat)]) hp7)).trans (same_new (o := .lst [.ref p7]) hp8)
  refine ⟨R, p8, _, _, rfl, rfl, s13 _ _ hR9, upd_same, small (by show _ + 1 ≤ _; omega), fun p9 hp9 => ?_⟩
  have ekids : (Tm.map (zs.zip ((st.drop dd).map Prod.fst))).kids = ((st.drop dd).map Prod.fst).take zs.length := by
    show (zs.zip ((st.drop dd).map Prod.fst)).map Prod.snd = _
    exact zip_snd_take _ _
  refine done H12 p7 p8 p9 (.ref p6) (.map (zs.zip ((st.drop dd).map Prod.fst))) (x9.same (s11.trans s12)) ?_ ?_ ?_ ?_ hp7 hp8 hp9
  · refine Dt.same ?_ s12
    unfold Tm.d
    rw [Tm.es_map]
    exact Dt.mk2 hp6 (.str _) (.tup (SqT.of upd_same) (da10.same (same_new hp5)))
  · have ef : (zs.zip ((st.drop dd).map Prod.fst)).map Prod.fst = zs := by
      rw [List.map_fst_zip (by rw [List.length_map, lst2]; omega)]
    refine .mk ⟨by rw [lzt]; omega, fun e he => ⟨nw.2 _ (zw _ (List.of_mem_zip he).1), W.wd _ (zw _ (List.of_mem_zip he).1)⟩, by rw [ef]; exact per.nodup_iff.mpr nd, by rw [ef]; exact srt⟩ fun k hk => ?_
    rw [ekids] at hk
    obtain ⟨e, he, rfl⟩ := List.mem_map.mp (List.mem_of_mem_take hk)
    exact (kok e he).1
  · refine Tm.ht_le fun k hk => ?_
    rw [ekids] at hk
    obtain ⟨e, he, rfl⟩ := List.mem_map.mp (List.mem_of_mem_take hk)
    exact (kok e he).2
  · rw [Tm.size_eq, ekids]
    have key : ∀ (n : Nat) (l : List (Tm × Nat)), (((l.map Prod.fst).take n).map Tm.size).sum ≤ tot l := fun n l => by
      induction l generalizing n with
      | nil => simp [tot]
      | cons a r ih =>
        cases n with
        | zero => simp
        | succ n =>
          have := ih n
          show a.1.size + _ ≤ a.1.size + tot r
          exact Nat.add_le_add_left this _
    have := key zs.length (st.drop dd)
    omega
theorem ok_term {f : Addr} {fd : FuncData} (F : Fun K "_law_term" "_law_term" s_law_term f fd) (T : TxtK K mg) (C_law_take : C8.Cal P w K mg base 2 "_law_take" (spTake 2) []) (C_law_grown : C8.Cal P w K mg base 5 "_law_grown" (spGrown K) []) :
    FnOk P w K mg base CX0 6 f fd ["pool", "signature", "words", "metas", "most"] (spTerm K) := by
  refine F.ok sc_law_term (fun vs H Q E h => ?_) (fun cdv A outer s H vs Q E hr h => ?_)
  · obtain ⟨_, _, _, _, _, _, _, _, _, _, rfl, _⟩ := h
    rfl
  obtain ⟨l, c, psg, pw, pm, sig, ws, ms, sh, most, rfl, P0, nsg, hsg, sok, W, nw, M, m0, m1, q⟩ := h
  refine ⟨_, (pss_cons (ps_set (i := 5) sc_law_term.nd rfl (Or.inl rfl) (pe_lst pa_nil))
    (pss_cons (ps_for PassesOwn.never rfl (pi_range1 (by rfl) T.z_range (pa_cons (pe_op op_add pe_int (C8.pe_c C_law_take hr (by decide) rfl (pa_cons (pv 0) (pa_cons (pv 4) pa_nil)))) pa_nil)) (pg_name (i := 6) sc_law_term.nd rfl (Or.inl rfl)) (pss_one (ps_set (i := 5) sc_law_term.nd rfl (Or.inl rfl) (C8.pe_c C_law_grown hr (by decide) rfl (pa_cons (pv 0) (pa_cons (pv 5) (pa_cons (pv 1) (pa_cons (pv 2) (pa_cons (pv 3) pa_nil)))))))))
    (pss_one (ps_ret (pe_ix ix_tup (pe_ix ix_list (pv 5) (pe_un un_neg pe_int) (fun _ _ => rfl)) pe_int (fun _ _ => rfl)))))), ?_⟩
  refine ⟨Nat.zero_le _, fun S hS => ?_⟩
  have x0 := (Ext.refl P0).new (o := .lst []) P0 hS
  have nS : S ≠ l := (P0.ne hS).1
  refine ⟨_, rfl, _, rfl, l, c, (most : Nat), False, rfl, x0.pool, by omega, by omega, .inl (Nat.le_refl 2), fun d H1 d0 d1 x1 => ⟨_, _, rfl, rfl, 1 + d, rfl, by omega, by omega, for_range (lo := 0) (n := (1 + d).toNat) (fun i σ H' => ∃ (S : Addr) (xs : List V) (st : List (Tm × Nat)) (b : Option V), σ = [some (.ref l), some (.ref psg), some (.ref pw), some (.ref pm), some (.int (most : Nat)), some (.ref S), b] ∧ Ext l c H H' ∧ S ≠ l ∧ H' S = some (.lst xs) ∧ DtAll K H' xs (st.map HdD) ∧ (∀ e ∈ st, StOk sig ms e) ∧ tot st ≤ i ∧ st.length ≤ i ∧ (0 < i → st ≠ [])) ?_ ?_ ?_⟩⟩
  · exact ⟨S, [], [], none, rfl, x0.trans x1, nS, x1.keep _ _ nS upd_same, .nil, fun _ h => absurd h List.not_mem_nil, Nat.le_refl _, Nat.le_refl _, fun h => absurd h (Nat.lt_irrefl _)⟩
  · rintro i σ H' hi ⟨S, xs, st, b, rfl, x, nS, hS, ds, so, ht, hl, _⟩
    refine ⟨_, rfl, _, rfl, _, rfl, _, rfl, _, rfl, l, c, S, psg, pw, pm, xs, st, sig, ws, ms, sh, rfl, x.pool, nS, hS, ds, by omega, nsg, x.keep _ _ nsg hsg, sok, W.ext x, nw, M.ext x, so, fun H2 S' xs' st' x2 nS' hS' ds' so' ne' ht' hl' => ?_⟩
    exact ⟨S', xs', st', _, rfl, x.trans x2, nS', hS', ds', so', by omega, by omega, fun _ => ne'⟩
  · rintro σ H' ⟨S, xs, st, b, rfl, x, nS, hS, ds, so, ht, hl, hne⟩
    have ne := hne (by omega)
    have lx : xs.length = st.length := by rw [ds.lenD, List.length_map]
    have l0 : 0 < st.length := List.length_pos_iff.mpr ne
    have gl : st[st.length - 1]? = some (st[st.length - 1]'(by omega)) := List.getElem?_eq_getElem (by omega)
    obtain ⟨y, gy, dy⟩ := DtAll.getD ds (show (st.map HdD)[st.length - 1]? = some (HdD (st[st.length - 1]'(by omega))) by rw [List.getElem?_map, gl]; rfl)
    have hm := List.getElem_mem (l := st) (n := st.length - 1) (by omega)
    generalize st[st.length - 1]'(by omega) = e at gl dy hm
    unfold HdD at dy
    obtain ⟨a1, u1, w1, rfl, hs1, j1, j2⟩ := Dt.t2 dy
    have o := so e hm
    have sz : e.1.size ≤ tot st := by
      have key : ∀ l : List (Tm × Nat), e ∈ l → e.1.size ≤ tot l := fun l => by
        induction l with
        | nil => exact fun h => absurd h List.not_mem_nil
        | cons a r ih =>
          intro h
          show _ ≤ a.1.size + tot r
          rcases List.mem_cons.mp h with rfl | h
          · omega
          · have := ih h; omega
      exact key st hm
    refine ⟨_, rfl, _, rfl, S, xs, -1, _, rfl, rfl, SqL.of hS, ?_, a1, _, 0, _, rfl, rfl, hs1, rfl, q u1 e.1 H' x j1 o.ok (by have := o.ht; have := o.le; omega) (by omega)⟩
    have ne2 : xs ≠ [] := fun z => by rw [z] at lx; simp at lx; omega
    have gy' : xs[xs.length - 1]? = some (V.ref a1) := by rw [lx]; exact gy
    have e2 : xs.getLast ne2 = .ref a1 := by
      rw [List.getLast_eq_getElem]
      exact (List.getElem?_eq_some_iff.mp gy').2
    have := atI_last xs.dropLast (V.ref a1)
    rw [← e2, List.dropLast_concat_getLast ne2, e2] at this
    exact this
end
end PK
namespace PK
open PySem L2
/-! _law_same -/
section
variable {K : PySem.W.Frag} {H H' : Hp}
mutual
theorem Dp.mono (hT : ∀ a xs, SqT K H a xs → SqT K H' a xs) (hL : ∀ a xs, SqL K H a xs → SqL K H' a xs) : ∀ (d : PyData) (v : V), Dp K H v d → Dp K H' v d
  | .none, _, h => by cases h; exact .non
  | .bool _, _, h => by cases h; exact .bl _
  | .int _, _, h => by cases h; exact .int _
  | .str _, _, h => by cases h; exact .str _
  | .dict _, _, h => by cases h
  | .list ds, _, h => by
    cases h with
    | lst s a => exact .lst (hL _ _ s) (DpAll.mono hT hL ds _ a)
  | .tuple ds, _, h => by
    cases h with
    | tup s a => exact .tup (hT _ _ s) (DpAll.mono hT hL ds _ a)
theorem DpAll.mono (hT : ∀ a xs, SqT K H a xs → SqT K H' a xs) (hL : ∀ a xs, SqL K H a xs → SqL K H' a xs) : ∀ (ds : List PyData) (vs : List V), DpAll K H vs ds → DpAll K H' vs ds
  | [], _, h => by cases h; exact .nil
  | d :: ds, _, h => by
    cases h with
    | cons h1 h2 => exact .cons (Dp.mono hT hL d _ h1) (DpAll.mono hT hL ds _ h2)
end
theorem Dp.same {d : PyData} {v : V} (h : Dp K H v d) (e : Same H H') : Dp K H' v d := Dp.mono (fun _ _ q => Same.seqT e q) (fun _ _ q => e.seq q) d v h
theorem DpAll.length : ∀ {xs : List V} {ds : List PyData}, DpAll K H xs ds → xs.length = ds.length
  | _, _, .nil => rfl
  | _, _, .cons _ t => by rw [List.length_cons, List.length_cons, DpAll.length t]
theorem DpAll.get : ∀ {xs : List V} {ds : List PyData} {i : Nat} {d : PyData}, DpAll K H xs ds → ds[i]? = some d → ∃ x, xs[i]? = some x ∧ Dp K H x d
  | _, _, _, _, .nil, e => by simp at e
  | _, _, 0, _, .cons h _, e => by simp at e; subst e; exact ⟨_, rfl, h⟩
  | _, _, i + 1, _, .cons _ t, e => by
    obtain ⟨d, h1, h2⟩ := DpAll.get (i := i) t (by simpa using e)
    exact ⟨d, by simpa using h1, h2⟩
end
theorem depth_get : ∀ {ds : List PyData} {i : Nat} {d : PyData}, ds[i]? = some d → d.depth ≤ PyData.depthAll ds
  | [], _, _, e => by simp at e
  | x :: r, 0, d, e => by
    simp at e; subst e
    show _ ≤ max _ _
    exact Nat.le_max_left _ _
  | x :: r, i + 1, d, e => by
    have ih := depth_get (ds := r) (i := i) (d := d) (by simpa using e)
    show _ ≤ max _ _
    exact Nat.le_trans ih (Nat.le_max_right _ _)
mutual
/-- no list in it is long -/
def slim : PyData → Bool
  | .none | .bool _ | .int _ | .str _ => true
  | .list xs | .tuple xs => decide (xs.length ≤ 1000) && slimAll xs
  | .dict _ => false
def slimAll : List PyData → Bool
  | [] => true
  | x :: xs => slim x && slimAll xs
end
theorem slim_get : ∀ {ds : List PyData} {i : Nat} {d : PyData}, slimAll ds = true → ds[i]? = some d → slim d = true
  | [], _, _, _, e => by simp at e
  | x :: r, 0, d, h, e => by
    simp at e; subst e
    unfold slimAll at h
    exact (Bool.and_eq_true_iff.mp h).1
  | x :: r, i + 1, d, h, e => by
    unfold slimAll at h
    exact slim_get (ds := r) (i := i) (Bool.and_eq_true_iff.mp h).2 (by simpa using e)
theorem slim_seq {ds : List PyData} (h : slim (.tuple ds) = true) : ds.length ≤ 1000 ∧ slimAll ds = true := by
  unfold slim at h
  exact ⟨of_decide_eq_true (Bool.and_eq_true_iff.mp h).1, (Bool.and_eq_true_iff.mp h).2⟩
theorem slim_lst {ds : List PyData} (h : slim (.list ds) = true) : ds.length ≤ 1000 ∧ slimAll ds = true := by
  unfold slim at h
  exact ⟨of_decide_eq_true (Bool.and_eq_true_iff.mp h).1, (Bool.and_eq_true_iff.mp h).2⟩
def spSame (K : PySem.W.Frag) (n : Nat) : Sp := fun vs H Q _ => ∃ (x y : V) (d : PyData), vs = [x, y] ∧ Dp K H x d ∧ Dp K H y d ∧ d.depth < n ∧ slim d = true ∧ ∀ H', Same H H' → Q (.bl true) H'
theorem bF {b : Bool} {A B : Prop} (h : B) : if (!decide (V.bl b = V.bl b)) = true then A else B := by
  rw [decide_eq_true rfl]; exact iteF h
def spInt : Sp := fun vs H Q _ => ∃ n : Int, vs = [.int n] ∧ Q (.bl true) H
section
variable {P : Program} {w : World} {K : PySem.W.Frag} {mg : Str → Option Value} {base : Heap}
abbrev s_law_is_integer : Stmt := topS 51
theorem sc_law_is_integer : FnScope ["actual"] ["actual"] (defScope s_law_is_integer) := ⟨rfl, rfl, rfl, by decide +kernel, rfl, by decide +kernel, by decide +kernel⟩
-- slots: 0:actual
abbrev s_law_same : Stmt := topS 52
theorem sc_law_same : FnScope ["actual", "due", "k"] ["actual", "due"] (defScope s_law_same) := ⟨rfl, rfl, rfl, by decide +kernel, rfl, by decide +kernel, by decide +kernel⟩
-- slots: 0:actual(cell) 1:due(cell) 2:k(comp)
theorem ok_isint {f : Addr} {fd : FuncData} (F : Fun K "_law_is_integer" "_law_is_integer" s_law_is_integer f fd) (T : Txt K mg) : FnOk P w K mg base CX0 1 f fd ["actual"] spInt := by
  refine F.ok sc_law_is_integer (fun vs H Q E h => ?_) (fun cdv A outer s H vs Q E hr h => ?_)
  · obtain ⟨n, rfl, _⟩ := h
    rfl
  obtain ⟨n, rfl, q⟩ := h
  refine ⟨_, (pss_one (ps_ret (pe_and (pe_callB call_isi (by rfl) T.z_isinstance (by decide +kernel) (pa_cons (pv 0) (pa_cons (pe_bltn (v := .ty "int") (by rfl) T.z_int (by decide +kernel) rfl) pa_nil))) (pe_one (pe_not (pe_callB call_isi (by rfl) T.z_isinstance (by decide +kernel) (pa_cons (pv 0) (pa_cons (pe_bltn (v := .ty "bool") (by rfl) T.z_bool (by decide +kernel) rfl) pa_nil)))))))), ?_⟩
  have ty : TyX K H (.int n) (.type "int") := .base (.int n)
  refine vIsi rfl ty (b := true) (by decide +kernel) ⟨_, rfl, iteT (vIsi rfl ty (b := false) (by decide +kernel) ⟨_, rfl, q⟩)⟩
theorem ok_same {n : Nat} {f : Addr} {fd : FuncData} (F : Fun K "_law_same" "_law_same" s_law_same f fd) (T : Txt K mg) (C_law_is_integer : C8.Cal P w K mg base 1 "_law_is_integer" spInt []) (C_law_same : C8.Cal P w K mg base (n + 1) "_law_same" (spSame K n) []) :
    FnOk P w K mg base CX0 (n + 2) f fd ["actual", "due"] (spSame K (n + 1)) := by
  refine F.ok sc_law_same (fun vs H Q E h => ?_) (fun cdv A outer s H vs Q E hr h => ?_)
  · obtain ⟨x, y, d, rfl, _⟩ := h
    rfl
  obtain ⟨x, y, d, rfl, hx, hy, hd, hsl, q⟩ := h
  refine ⟨_, (pss_cons (ps_if (pt_val (pe_callB call_isi (by rfl) T.z_isinstance (by decide +kernel) (pa_cons (pv 1) (pa_cons (pe_bltn (v := .ty "tuple") (by rfl) T.z_tuple (by decide +kernel) rfl) pa_nil)))) (pss_cons (ps_if (PW.pt (pw_or (pt_not (pt_val (pe_callB call_isi (by rfl) T.z_isinstance (by decide +kernel) (pa_cons (pv 0) (pa_cons (pe_bltn (v := .ty "tuple") (by rfl) T.z_tuple (by decide +kernel) rfl) pa_nil))))) (pw_or1 (pt_cmpR op_ne (pe_callB call_len_seq (by rfl) T.z_len (by decide +kernel) (pa_cons (pv 0) pa_nil)) (pe_callB call_len_seq (by rfl) T.z_len (by decide +kernel) (pa_cons (pv 1) pa_nil)) (nomark _))))) (pss_one (ps_ret pe_bl)) pss_nil)
    (pss_one (ps_ret (pe_callB (cr_all (by rfl)) (by rfl) T.z_all (by decide +kernel) (pa_cons (pe_lc (own := [("k", 2)]) (g := (gName 2)) (tt := tYes) (by rfl) sc_law_same.nd (pi_range1 (by rfl) T.z_range (pa_cons (pe_callB call_len_seq (by rfl) T.z_len (by decide +kernel) (pa_cons (pv 1) pa_nil)) pa_nil)) (blkOk_by (N := ["actual", "due", "k"]) (sc := defScope s_law_same) (by decide +kernel)) (fun _ _ _ _ _ => (pg_name (i := 2) sc_law_same.nd rfl (Or.inl rfl))) (fun _ _ _ _ _ => pts_nil) (fun _ _ _ _ _ => (C8.pe_c C_law_same hr (by omega) rfl (pa_cons (pe_ix (r := rIx K) ix_seq (pv 0) (pv 2) (fun _ _ => rfl)) (pa_cons (pe_ix (r := rIx K) ix_seq (pv 1) (pv 2) (fun _ _ => rfl)) pa_nil))))) pa_nil))))) pss_nil)
    (pss_cons (ps_if (pt_val (pe_callB call_isi (by rfl) T.z_isinstance (by decide +kernel) (pa_cons (pv 1) (pa_cons (pe_bltn (v := .ty "list") (by rfl) T.z_list (by decide +kernel) rfl) pa_nil)))) (pss_cons (ps_if (PW.pt (pw_or (pt_not (pt_val (pe_callB call_isi (by rfl) T.z_isinstance (by decide +kernel) (pa_cons (pv 0) (pa_cons (pe_bltn (v := .ty "list") (by rfl) T.z_list (by decide +kernel) rfl) pa_nil))))) (pw_or1 (pt_cmpR op_ne (pe_callB call_len_seq (by rfl) T.z_len (by decide +kernel) (pa_cons (pv 0) pa_nil)) (pe_callB call_len_seq (by rfl) T.z_len (by decide +kernel) (pa_cons (pv 1) pa_nil)) (nomark _))))) (pss_one (ps_ret pe_bl)) pss_nil)
    (pss_one (ps_ret (pe_callB (cr_all (by rfl)) (by rfl) T.z_all (by decide +kernel) (pa_cons (pe_lc (own := [("k", 2)]) (g := (gName 2)) (tt := tYes) (by rfl) sc_law_same.nd (pi_range1 (by rfl) T.z_range (pa_cons (pe_callB call_len_seq (by rfl) T.z_len (by decide +kernel) (pa_cons (pv 1) pa_nil)) pa_nil)) (blkOk_by (N := ["actual", "due", "k"]) (sc := defScope s_law_same) (by decide +kernel)) (fun _ _ _ _ _ => (pg_name (i := 2) sc_law_same.nd rfl (Or.inl rfl))) (fun _ _ _ _ _ => pts_nil) (fun _ _ _ _ _ => (C8.pe_c C_law_same hr (by omega) rfl (pa_cons (pe_ix (r := rIx K) ix_seq (pv 0) (pv 2) (fun _ _ => rfl)) (pa_cons (pe_ix (r := rIx K) ix_seq (pv 1) (pv 2) (fun _ _ => rfl)) pa_nil))))) pa_nil))))) pss_nil)
    (pss_cons (ps_if (pt_cmpR op_isN (pv 1) pe_non (nomark _)) (pss_one (ps_ret (pe_cmpR op_isN (pv 0) pe_non (nomark _)))) pss_nil)
    (pss_cons (ps_if (pt_val (pe_callB call_isi (by rfl) T.z_isinstance (by decide +kernel) (pa_cons (pv 1) (pa_cons (pe_bltn (v := .ty "bool") (by rfl) T.z_bool (by decide +kernel) rfl) pa_nil)))) (pss_one (ps_ret (pe_and (pe_callB call_isi (by rfl) T.z_isinstance (by decide +kernel) (pa_cons (pv 0) (pa_cons (pe_bltn (v := .ty "bool") (by rfl) T.z_bool (by decide +kernel) rfl) pa_nil))) (pe_one (pe_cmpR op_eq (pv 0) (pv 1) (nomark _)))))) pss_nil)
    (pss_cons (ps_if (pt_val (pe_callB call_isi (by rfl) T.z_isinstance (by decide +kernel) (pa_cons (pv 1) (pa_cons (pe_bltn (v := .ty "str") (by rfl) T.z_str (by decide +kernel) rfl) pa_nil)))) (pss_one (ps_ret (pe_and (pe_callB call_isi (by rfl) T.z_isinstance (by decide +kernel) (pa_cons (pv 0) (pa_cons (pe_bltn (v := .ty "str") (by rfl) T.z_str (by decide +kernel) rfl) pa_nil))) (pe_one (pe_cmpR op_eq (pv 0) (pv 1) (nomark _)))))) pss_nil)
    (pss_one (ps_ret (pe_and (C8.pe_c C_law_is_integer hr (by omega) rfl (pa_cons (pv 0) pa_nil)) (pe_one (pe_cmpR op_eq (pv 0) (pv 1) (nomark _))))))))))), ?_⟩
  have q0 := q H (Same.refl H)
  cases d with
  | tuple ds =>
    cases hx with
    | tup sx ax =>
    cases hy with
    | tup sy ay =>
    rename_i px xs py ys
    have tx := ty_tup sx
    have ty := ty_tup sy
    have lx := DpAll.length ax
    have ly := DpAll.length ay
    have hd' : PyData.depthAll ds + 1 < n + 1 := hd
    obtain ⟨hz, hsa⟩ := slim_seq hsl
    refine vIsi rfl ty (b := true) (by decide +kernel) ⟨_, rfl, iteT (vIsi rfl tx (b := true) (by decide +kernel) ⟨_, rfl, iteF ?_⟩)⟩
    refine ⟨_, rfl, px, _, rfl, .inr sx, _, rfl, py, _, rfl, .inr sy, rfl, _, rfl, ?_⟩
    rw [show xs.length = ys.length by omega, decide_eq_true rfl]
    refine iteF ⟨_, rfl, py, _, rfl, .inr sy, _, rfl, by omega, by omega, fun D hD => lc_range (lo := 0) (n := ((ys.length : Nat) : Int).toNat) (fun i H' => i ≤ ys.length ∧ Same H H' ∧ H' D = some (.lst ((List.replicate i true).map V.bl))) ?_ ?_ ?_⟩
    · exact ⟨Nat.zero_le _, same_new hD, upd_same⟩
    · rintro i H' hi ⟨_, sm, hl⟩
      have hi' : i < ys.length := by omega
      have hi2 : i < ds.length := by omega
      have gd : ds[i]? = some ds[i] := List.getElem?_eq_getElem hi2
      obtain ⟨x1, gx, dx⟩ := DpAll.get ax gd
      obtain ⟨y1, gy, dy⟩ := DpAll.get ay gd
      have dd := depth_get gd
      have e0 : (0 : Int) + (i : Int) = (i : Int) := Int.zero_add _
      refine ⟨rfl, yes_ ⟨_, rfl, _, rfl, .inr (.inl ⟨px, xs, _, x1, rfl, rfl, Same.seqT sm sx, by rw [e0]; exact atI_nat gx, ?_⟩)⟩⟩
      refine ⟨_, rfl, _, rfl, .inr (.inl ⟨py, ys, _, y1, rfl, rfl, Same.seqT sm sy, by rw [e0]; exact atI_nat gy, ?_⟩)⟩
      refine ⟨x1, y1, ds[i], rfl, Dp.same dx sm, Dp.same dy sm, by omega, slim_get hsa gd, fun H2 s2 => ⟨_, s2 _ _ hl, ?_, hi', Same.upd (sm.trans s2) hD, ?_⟩⟩
      · rw [List.length_map, List.length_replicate]; exact smallL (by omega)
      · rw [upd_same, List.replicate_succ', List.map_append]; rfl
    · rintro H' ⟨_, sm, hl⟩
      refine ⟨D, _, rfl, SqL.of hl, ?_⟩
      have e2 : (List.replicate ((ys.length : Nat) : Int).toNat true).all id = true := by simp
      rw [e2]
      exact q H' sm
  | list ds =>
    cases hx with
    | lst sx ax =>
    cases hy with
    | lst sy ay =>
    rename_i px xs py ys
    have tx := ty_lst sx
    have ty := ty_lst sy
    have lx := DpAll.length ax
    have ly := DpAll.length ay
    have hd' : PyData.depthAll ds + 1 < n + 1 := hd
    obtain ⟨hz, hsa⟩ := slim_lst hsl
    refine vIsi rfl ty (b := false) (by decide +kernel) ⟨_, rfl, iteF (vIsi rfl ty (b := true) (by decide +kernel) ⟨_, rfl, iteT (vIsi rfl tx (b := true) (by decide +kernel) ⟨_, rfl, iteF ?_⟩)⟩)⟩
    refine ⟨_, rfl, px, _, rfl, .inl sx, _, rfl, py, _, rfl, .inl sy, rfl, _, rfl, ?_⟩
    rw [show xs.length = ys.length by omega, decide_eq_true rfl]
    refine iteF ⟨_, rfl, py, _, rfl, .inl sy, _, rfl, by omega, by omega, fun D hD => lc_range (lo := 0) (n := ((ys.length : Nat) : Int).toNat) (fun i H' => i ≤ ys.length ∧ Same H H' ∧ H' D = some (.lst ((List.replicate i true).map V.bl))) ?_ ?_ ?_⟩
    · exact ⟨Nat.zero_le _, same_new hD, upd_same⟩
    · rintro i H' hi ⟨_, sm, hl⟩
      have hi' : i < ys.length := by omega
      have hi2 : i < ds.length := by omega
      have gd : ds[i]? = some ds[i] := List.getElem?_eq_getElem hi2
      obtain ⟨x1, gx, dx⟩ := DpAll.get ax gd
      obtain ⟨y1, gy, dy⟩ := DpAll.get ay gd
      have dd := depth_get gd
      have e0 : (0 : Int) + (i : Int) = (i : Int) := Int.zero_add _
      refine ⟨rfl, yes_ ⟨_, rfl, _, rfl, .inl (id ⟨px, xs, _, x1, rfl, rfl, sm.seq sx, by rw [e0]; exact atI_nat gx, ?_⟩)⟩⟩
      refine ⟨_, rfl, _, rfl, .inl (id ⟨py, ys, _, y1, rfl, rfl, sm.seq sy, by rw [e0]; exact atI_nat gy, ?_⟩)⟩
      refine ⟨x1, y1, ds[i], rfl, Dp.same dx sm, Dp.same dy sm, by omega, slim_get hsa gd, fun H2 s2 => ⟨_, s2 _ _ hl, ?_, hi', Same.upd (sm.trans s2) hD, ?_⟩⟩
      · rw [List.length_map, List.length_replicate]; exact smallL (by omega)
      · rw [upd_same, List.replicate_succ', List.map_append]; rfl
    · rintro H' ⟨_, sm, hl⟩
      refine ⟨D, _, rfl, SqL.of hl, ?_⟩
      have e2 : (List.replicate ((ys.length : Nat) : Int).toNat true).all id = true := by simp
      rw [e2]
      exact q H' sm
  | none =>
    cases hx; cases hy
    have ty : TyX K H .non (.type "NoneType") := .base .non
    exact vIsi rfl ty (b := false) (by decide +kernel) ⟨_, rfl, iteF (vIsi rfl ty (b := false) (by decide +kernel) ⟨_, rfl, iteF ⟨_, rfl, rfl, _, rfl, iteT ⟨_, rfl, rfl, q0⟩⟩⟩)⟩
  | bool b =>
    cases hx; cases hy
    have ty : TyX K H (.bl b) (.type "bool") := .base (.bl b)
    refine vIsi rfl ty (b := false) (by decide +kernel) ⟨_, rfl, iteF (vIsi rfl ty (b := false) (by decide +kernel) ⟨_, rfl, iteF ⟨_, rfl, rfl, _, rfl, iteF (vIsi rfl ty (b := true) (by decide +kernel) ⟨_, rfl, iteT (vIsi rfl ty (b := true) (by decide +kernel) ⟨_, rfl, iteT ⟨_, rfl, _, rfl, rfl, ?_⟩⟩)⟩)⟩⟩)⟩
    rw [decide_eq_true rfl]
    exact q0
  | str b =>
    cases hx; cases hy
    have ty : TyX K H (.str b) (.type "str") := .base (.str b)
    refine vIsi rfl ty (b := false) (by decide +kernel) ⟨_, rfl, iteF (vIsi rfl ty (b := false) (by decide +kernel) ⟨_, rfl, iteF ⟨_, rfl, rfl, _, rfl, iteF (vIsi rfl ty (b := false) (by decide +kernel) ⟨_, rfl, iteF (vIsi rfl ty (b := true) (by decide +kernel) ⟨_, rfl, iteT (vIsi rfl ty (b := true) (by decide +kernel) ⟨_, rfl, iteT ⟨_, rfl, _, rfl, rfl, ?_⟩⟩)⟩)⟩)⟩⟩)⟩
    rw [decide_eq_true rfl]
    exact q0
  | int b =>
    cases hx; cases hy
    have ty : TyX K H (.int b) (.type "int") := .base (.int b)
    refine vIsi rfl ty (b := false) (by decide +kernel) ⟨_, rfl, iteF (vIsi rfl ty (b := false) (by decide +kernel) ⟨_, rfl, iteF ⟨_, rfl, rfl, _, rfl, iteF (vIsi rfl ty (b := false) (by decide +kernel) ⟨_, rfl, iteF (vIsi rfl ty (b := false) (by decide +kernel) ⟨_, rfl, iteF ⟨_, rfl, _, rfl, _, rfl, iteT ⟨_, rfl, _, rfl, rfl, ?_⟩⟩⟩)⟩)⟩⟩)⟩
    rw [decide_eq_true rfl]
    exact q0
  | dict kvs => cases hx
end
end PK
namespace PK
open PySem L2
section
variable {X : Cx} {x : Str} {p : Pos}
theorem pe_glI {n : Int} (hg : Gl X x) (h : ∃ t, X.mg x = some (.int n t)) (hd : (x == ("__debug__" : Str)) = false := by decide) : PE X (.Name x p) (tC (.int n)) := by
  obtain ⟨t, h⟩ := h
  exact pe_glob hg h ⟨_, rfl⟩ hd
theorem pe_glS {s : Str} (hg : Gl X x) (h : ∃ t, X.mg x = some (.str s t)) (hd : (x == ("__debug__" : Str)) = false := by decide) : PE X (.Name x p) (tC (.str s)) := by
  obtain ⟨t, h⟩ := h
  exact pe_glob hg h ⟨_, rfl⟩ hd
end
theorem le_le {i j k : Int} {H : Hp} {Q : Bool → Hp → Prop} (h : Q (decide (i ≤ j ∧ j ≤ k)) H) :
    ∃ a b, V.int i = .int a ∧ V.int j = .int b ∧ ∃ y, V.bl (decide (a ≤ b)) = .bl y ∧ (if y = true then ∃ a b, V.int j = .int a ∧ V.int k = .int b ∧ ∃ z, V.bl (decide (a ≤ b)) = .bl z ∧ Q z H else ∃ z, V.bl false = .bl z ∧ Q z H) := by
  refine ⟨_, _, rfl, rfl, _, rfl, ?_⟩
  by_cases e : i ≤ j
  · rw [decide_eq_true e]
    refine iteT ⟨_, _, rfl, rfl, _, rfl, ?_⟩
    by_cases f : j ≤ k
    · rw [decide_eq_true f]; rwa [decide_eq_true ⟨e, f⟩] at h
    · rw [decide_eq_false f]; rwa [decide_eq_false (fun z => f z.2)] at h
  · rw [decide_eq_false e]
    refine iteF ⟨_, rfl, ?_⟩
    rwa [decide_eq_false (fun z => e z.1)] at h
/-- a list or a tuple -/
def Sq (K : PySem.W.Frag) (H : Hp) (p : Addr) (xs : List V) : Prop := SqL K H p xs ∨ SqT K H p xs
theorem Sq.same {K : PySem.W.Frag} {H H' : Hp} {p : Addr} {xs : List V} (h : Sq K H p xs) (e : Same H H') : Sq K H' p xs := h.imp (fun q => e.seq q) fun q => Same.seqT e q
theorem for_seq {K : PySem.W.Frag} {i : Nat} {p : Addr} {xs : List V} {g : TG} {tb : TS} {D : Ends} {σ : L2.St} {H0 H : Hp} (hq : Sq K H0 p xs) (hv : σ[i]? = some (some (.ref p))) (Pv : Nat → L2.St → Hp → Prop) (h0 : Pv 0 σ H)
    (hG : ∀ i σ H, i ≤ xs.length → Pv i σ H → Same H0 H) (hs : ∀ i x σ H, xs[i]? = some x → Pv i σ H → g x σ H fun σ2 H2 => tb { D with nx := Pv (i + 1), ct := Pv (i + 1), bk := D.nx } σ2 H2) (hd : ∀ σ H, Pv xs.length σ H → D.nx σ H) :
    tFor (fun σ H R => iList K (tVar i) σ H R ∨ iTup K (tVar i) σ H R) g tb D σ H := by
  have e0 := hG 0 σ H (Nat.zero_le _) h0
  rcases hq with hq | hq
  · refine .inl ⟨_, hv, p, rfl, ⟨xs, e0.seq hq⟩, for_it (walk_list (xs := xs)) Pv h0 (fun j σ H hj k => (hG j σ H hj k).seq hq) (fun j x σ H H' hj k y => ?_) hd⟩
    obtain ⟨rfl, gx⟩ := y
    exact hs j x σ H' gx k
  · refine .inr ⟨_, hv, p, rfl, ⟨xs, Same.seqT e0 hq⟩, for_it (walk_tup (xs := xs)) Pv h0 (fun j σ H hj k => Same.seqT (hG j σ H hj k) hq) (fun j x σ H H' hj k y => ?_) hd⟩
    obtain ⟨rfl, gx⟩ := y
    exact hs j x σ H' gx k
theorem walk_enumT {K : PySem.W.Frag} {a : Addr} {xs : List V} : Walk (PKR.ItE K a) xs.length (fun H => SqT K H a xs) (YPair (fun i => some (.int (i : Nat))) (fun i => xs[i]?)) := by
  refine ⟨fun i _ hi q => ⟨xs, xs[i], q, by simp [hi]⟩, fun _ q => ⟨xs, q, rfl⟩, fun i H v H' _ q y => ?_⟩
  obtain ⟨T, x, h1, h2, h3, h4⟩ := y
  exact ⟨T, .int (i : Nat), x, h1, h2, h3, rfl, h4 xs q⟩
theorem for_enum {K : PySem.W.Frag} {i : Nat} {p : Addr} {xs : List V} {g : TG} {tb : TS} {D : Ends} {σ : L2.St} {H0 H : Hp} (hq : Sq K H0 p xs) (hv : σ[i]? = some (some (.ref p))) (Pv : Nat → L2.St → Hp → Prop) (h0 : Pv 0 σ H)
    (hG : ∀ i σ H, i ≤ xs.length → Pv i σ H → Same H0 H) (hs : ∀ i x σ H T, xs[i]? = some x → Pv i σ H → H T = none → g (.ref T) σ (upd H T (.tup [.int (i : Nat), x])) fun σ2 H2 => tb { D with nx := Pv (i + 1), ct := Pv (i + 1), bk := D.nx } σ2 H2)
    (hd : ∀ σ H, Pv xs.length σ H → D.nx σ H) :
    tFor (fun σ H R => iEnum K (tCons (tVar i) tNil) σ H R ∨ PKR.iEnumT K (tCons (tVar i) tNil) σ H R) g tb D σ H := by
  have e0 := hG 0 σ H (Nat.zero_le _) h0
  rcases hq with hq | hq
  · refine .inl ⟨_, hv, p, xs, rfl, e0.seq hq, for_it (walk_enum (xs := xs)) Pv h0 (fun j σ H hj k => (hG j σ H hj k).seq hq) (fun j x σ H H' hj k y => ?_) hd⟩
    obtain ⟨T, a, b, rfl, hT, rfl, ea, eb⟩ := y
    cases ea
    exact hs j b σ H T eb k hT
  · refine .inr ⟨_, hv, p, xs, rfl, Same.seqT e0 hq, for_it (walk_enumT (xs := xs)) Pv h0 (fun j σ H hj k => Same.seqT (hG j σ H hj k) hq) (fun j x σ H H' hj k y => ?_) hd⟩
    obtain ⟨T, a, b, rfl, hT, rfl, ea, eb⟩ := y
    cases ea
    exact hs j b σ H T eb k hT
structure TxtP (K : PySem.W.Frag) (mg : Str → Option Value) (aS : Addr) : Prop extends Txt K mg where
  g_MC : ∃ t, mg "MOST_CHARACTERS" = some (.int 12 t)
  g_LET : ∃ t, mg "LETTERS" = some (.str LET t)
  g_DIG : ∃ t, mg "DIGITS" = some (.str "0123456789" t)
  g_OTH : ∃ t, mg "WORD_CHARACTERS" = some (.str OTH t)
  g_SEP : ∃ t, mg "_SEPARATORS" = some (.str " \n" t)
  g_MT : ∃ t, mg "MOST_TEXT" = some (.int 4000 t)
  g_MO : ∃ t, mg "MOST_OPEN" = some (.int 60 t)
  g_MI : ∃ t, mg "MOST_INTEGER" = some (.int 15 t)
  g_MA : ∃ t, mg "MOST_ADDRESS" = some (.int 9 t)
  g_S : mg "_SIGNS" = some (.ref aS)
  signs : ∀ H, SqT K H aS [.str "(", .str ")", .str "{", .str "}"]
def isWd (x : Str) : Bool := decide (1 ≤ x.length ∧ x.length ≤ 12) && (decide (x.cps.toList.headD 0 ∈ LET.cps.toList) && x.cps.toList.all fun s => decide (s ∈ OTH.cps.toList))
def spWord : Sp := fun vs H Q _ => ∃ x : Str, vs = [.str x] ∧ x.length ≤ 10000 ∧ ∀ H', Same H H' → Q (.bl (isWd x)) H'
def spWhole : Sp := fun vs H Q _ => ∃ n : Int, vs = [.int n] ∧ Q (.bl true) H
section
variable {P : Program} {w : World} {K : PySem.W.Frag} {mg : Str → Option Value} {base : Heap} {aS : Addr}
abbrev s_is_word : Stmt := topS 12
theorem sc_is_word : FnScope ["text", "sign"] ["text"] (defScope s_is_word) := ⟨rfl, rfl, rfl, by decide +kernel, rfl, by decide +kernel, by decide +kernel⟩
-- slots: 0:text 1:sign(comp)
theorem ok_word {f : Addr} {fd : FuncData} (F : Fun K "is_word" "is_word" s_is_word f fd) (T : TxtP K mg aS) : FnOk P w K mg base CX0 1 f fd ["text"] spWord := by
  refine F.ok sc_is_word (fun vs H Q E h => ?_) (fun cdv A outer s H vs Q E hr h => ?_)
  · obtain ⟨x, rfl, _⟩ := h
    rfl
  obtain ⟨x, rfl, hx, q⟩ := h
  refine ⟨_, (pss_cons (ps_if (PW.pt (pw_or (pt_not (pt_val (pe_callB call_isi (by rfl) T.z_isinstance (by decide +kernel) (pa_cons (pv 0) (pa_cons (pe_bltn (v := .ty "str") (by rfl) T.z_str (by decide +kernel) rfl) pa_nil))))) (pw_or1 (pt_not (pt_chain op_le op_le pe_int (pe_callB call_len_str (by rfl) T.z_len (by decide +kernel) (pa_cons (pv 0) pa_nil)) (pe_glI (n := 12) rfl T.g_MC)))))) (pss_one (ps_ret pe_bl)) pss_nil)
    (pss_one (ps_ret (pe_and (pe_cmpR op_in_sign (pe_ix ix_str (pv 0) pe_int (fun _ _ => rfl)) (pe_glS (s := LET) rfl T.g_LET) rfl) (pe_one (pe_callB (cr_all (by rfl)) (by rfl) T.z_all (by decide +kernel) (pa_cons (pe_lc (own := [("sign", 1)]) (g := (gName 1)) (tt := tYes) (by rfl) sc_is_word.nd (pi_str (pv 0)) (blkOk_by (N := ["text", "sign"]) (sc := defScope s_is_word) (by decide +kernel)) (fun _ _ _ _ _ => (pg_name (i := 1) sc_is_word.nd rfl (Or.inl rfl))) (fun _ _ _ _ _ => pts_nil) (fun _ _ _ _ _ => (pe_cmpR op_in_sign (pv 1) (pe_glS (s := OTH) rfl T.g_OTH) rfl))) pa_nil))))))), ?_⟩
  have ty : TyX K H (.str x) (.type "str") := .base (.str x)
  refine vIsi rfl ty (b := true) (by decide +kernel) ?_
  refine ⟨_, rfl, iteF ⟨_, rfl, x, rfl, small (by omega), le_le ?_⟩⟩
  by_cases hl : 1 ≤ x.length ∧ x.length ≤ 12
  · rw [decide_eq_true (show (1 : Int) ≤ (x.length : Int) ∧ (x.length : Int) ≤ 12 by omega)]
    have en : x.cps.toList.length = x.length := (len_list x).symm
    obtain ⟨s0, r, e0⟩ : ∃ s0 r, x.cps.toList = s0 :: r := by
      cases e : x.cps.toList with
      | nil => rw [e] at en; simp at en; omega
      | cons a b => exact ⟨a, b, rfl⟩
    refine iteF ⟨_, rfl, x, 0, s0, rfl, rfl, small (by omega), by rw [e0]; exact atI_nat (j := 0) rfl, s0, LET, rfl, rfl, ⟨_, rfl, ?_⟩⟩
    have fin : isWd x = (decide (s0 ∈ LET.cps.toList) && x.cps.toList.all fun s => decide (s ∈ OTH.cps.toList)) := by
      unfold isWd
      rw [decide_eq_true hl, e0]; rfl
    by_cases h0 : s0 ∈ LET.cps.toList
    · rw [decide_eq_true h0]
      refine iteT ⟨_, rfl, x, rfl, fun D hD => lc_it (walk_str (z := x)) (fun i H' => Same H H' ∧ H' D = some (.lst (((x.cps.toList.take i).map fun s => decide (s ∈ OTH.cps.toList)).map V.bl))) ?_ (fun _ _ _ _ => trivial) ?_ ?_⟩
      · exact ⟨same_new hD, upd_same⟩
      · rintro i v H1 H2 hi ⟨sm, hd⟩ ⟨rfl, c, gc, rfl⟩
        have gl : x.cps.toList[i]? = some c := by simpa using gc
        refine ⟨rfl, yes_ ⟨_, rfl, c, OTH, rfl, rfl, _, hd, ?_, Same.upd sm hD, ?_⟩⟩
        · rw [List.length_map, List.length_map, List.length_take]; exact smallL (by omega)
        · rw [upd_same, List.take_add_one, gl]; simp
      · rintro H' ⟨sm, hd⟩
        have z : x.cps.toList.take x.cps.size = x.cps.toList := List.take_of_length_le (by simp)
        rw [z] at hd
        refine ⟨D, _, rfl, SqL.of hd, ?_⟩
        have := q H' sm
        rw [fin, decide_eq_true h0, Bool.true_and] at this
        rwa [List.all_map]
    · rw [decide_eq_false h0]
      refine iteF ?_
      have := q H (Same.refl H)
      rwa [fin, decide_eq_false h0, Bool.false_and] at this
  · rw [decide_eq_false (show ¬ ((1 : Int) ≤ (x.length : Int) ∧ (x.length : Int) ≤ 12) by omega)]
    have := q H (Same.refl H)
    unfold isWd at this
    rw [decide_eq_false hl, Bool.false_and] at this
    exact iteT this
end
end PK
namespace PK
open PySem L2
/-! tokens: where a run of signs ends -/
abbrev DIGS : Str := "0123456789"
/-- how many signs of S stand at the beginning -/
def runN (S : List Nat) : List Nat → Nat
  | [] => 0
  | c :: r => if c ∈ S then runN S r + 1 else 0
theorem run_cons (S : List Nat) (c : Nat) (r : List Nat) : runN S (c :: r) = if c ∈ S then runN S r + 1 else 0 := rfl
theorem runN_le (S : List Nat) : ∀ l : List Nat, runN S l ≤ l.length
  | [] => Nat.le_refl _
  | c :: r => by
    unfold runN
    split
    · have := runN_le S r; rw [List.length_cons]; omega
    · exact Nat.zero_le _
theorem le_leV {i j k : Int} {H : Hp} {Q : Bool → Hp → Prop} (h : Q (decide (i ≤ j ∧ j ≤ k)) H) :
    ∃ a b, V.int i = .int a ∧ V.int j = .int b ∧ ∃ y, V.bl (decide (a ≤ b)) = .bl y ∧ (if y = true then ∃ u, some (some (V.int k)) = some (some u) ∧ ∃ a b, V.int j = .int a ∧ u = .int b ∧ ∃ z, V.bl (decide (a ≤ b)) = .bl z ∧ Q z H else ∃ z, V.bl false = .bl z ∧ Q z H) := by
  obtain ⟨a, b, h1, h2, y, h3, h4⟩ := le_le (i := i) (j := j) (k := k) (H := H) (Q := Q) h
  refine ⟨a, b, h1, h2, y, h3, ?_⟩
  cases y with
  | false => exact h4
  | true => exact ⟨_, rfl, h4⟩
def spEnd : Sp := fun vs H Q _ => ∃ (x z : Str) (s : Nat), vs = [.str x, .int (s : Nat), .str z] ∧ s ≤ x.length ∧ x.length ≤ 10000 ∧ Q (.int ((s + runN z.cps.toList (x.cps.toList.drop s) : Nat))) H
section
variable {P : Program} {w : World} {K : PySem.W.Frag} {mg : Str → Option Value} {base : Heap} {aS : Addr}
abbrev s_end_of_run : Stmt := topS 30
theorem sc_end_of_run : FnScope ["text", "start", "characters", "end"] ["text", "start", "characters"] (defScope s_end_of_run) := ⟨rfl, rfl, rfl, by decide +kernel, rfl, by decide +kernel, by decide +kernel⟩
-- slots: 0:text 1:start 2:characters 3:end
abbrev s_token_end : Stmt := topS 31
theorem sc_token_end : FnScope ["text", "start", "first"] ["text", "start"] (defScope s_token_end) := ⟨rfl, rfl, rfl, by decide +kernel, rfl, by decide +kernel, by decide +kernel⟩
-- slots: 0:text 1:start 2:first
abbrev s_is_number : Stmt := topS 32
theorem sc_is_number : FnScope ["digits", "most"] ["digits", "most"] (defScope s_is_number) := ⟨rfl, rfl, rfl, by decide +kernel, rfl, by decide +kernel, by decide +kernel⟩
-- slots: 0:digits 1:most
theorem ok_end {f : Addr} {fd : FuncData} (F : Fun K "_end_of_run" "_end_of_run" s_end_of_run f fd) (T : TxtP K mg aS) : FnOk P w K mg base CX0 1 f fd ["text", "start", "characters"] spEnd := by
  refine F.ok sc_end_of_run (fun vs H Q E h => ?_) (fun cdv A outer s H vs Q E hr h => ?_)
  · obtain ⟨_, _, _, rfl, _⟩ := h
    rfl
  obtain ⟨x, z, st, rfl, hs, hx, q⟩ := h
  refine ⟨_, (pss_cons (ps_set (i := 3) sc_end_of_run.nd rfl (Or.inl rfl) (pv 1))
    (pss_cons (ps_while PassesOwn.never (PW.pt (pw_and (pt_cmpR op_lt (pv 3) (pe_callB call_len_str (by rfl) T.z_len (by decide +kernel) (pa_cons (pv 0) pa_nil)) (nomark _)) (pw_and1 (pt_cmpR op_in_sign (pe_ix ix_str (pv 0) (pv 3) (fun _ _ => rfl)) (pv 2) rfl)))) (pss_one (ps_aug (i := 3) sc_end_of_run.nd rfl (Or.inl rfl) pe_int ip_add)))
    (pss_one (ps_ret (pv 3))))), ?_⟩
  have en : x.cps.toList.length = x.length := (len_list x).symm
  refine ⟨_, rfl, fun m σ H' => ∃ e : Nat, σ = [some (.str x), some (.int (st : Nat)), some (.str z), some (.int (e : Nat))] ∧ H' = H ∧ m = x.length - e ∧ e ≤ x.length ∧ e + runN z.cps.toList (x.cps.toList.drop e) = st + runN z.cps.toList (x.cps.toList.drop st), ⟨_, st, rfl, rfl, rfl, hs, rfl⟩, ?_⟩
  rintro m σ H' ⟨e, rfl, rfl, rfl, he, eq⟩
  have stop : runN z.cps.toList (x.cps.toList.drop e) = 0 → Q (.int (e : Nat)) H' := fun h => by
    rw [h, Nat.add_zero] at eq
    rw [eq]; exact q
  refine ⟨_, rfl, ⟨_, rfl, x, rfl, small (by omega), _, _, rfl, rfl, _, rfl, ?_⟩⟩
  by_cases hl : e < x.length
  · have he2 : e < x.cps.toList.length := by omega
    have dr : x.cps.toList.drop e = x.cps.toList[e] :: x.cps.toList.drop (e + 1) := List.drop_eq_getElem_cons he2
    rw [decide_eq_true (show (e : Int) < (x.length : Int) by omega)]
    refine iteT ⟨_, rfl, _, rfl, x, (e : Int), x.cps.toList[e], rfl, rfl, small (by omega), atI_nat (List.getElem?_eq_getElem he2), _, rfl, x.cps.toList[e], z, rfl, rfl, _, rfl, ?_⟩
    by_cases hc : x.cps.toList[e] ∈ z.cps.toList
    · rw [decide_eq_true hc]
      refine iteT ⟨fun σ H2 => σ = [some (.str x), some (.int (st : Nat)), some (.str z), some (.int ((e + 1 : Nat) : Int))] ∧ H2 = H', fun σ' H2 ⟨e1, e2⟩ => ?_, _, rfl, _, _, rfl, rfl, rfl, rfl⟩
      refine ⟨x.length - (e + 1), by omega, e + 1, e1, e2, rfl, by omega, ?_⟩
      rw [dr, run_cons, if_pos hc] at eq
      omega
    · rw [decide_eq_false hc]
      refine iteF ⟨_, rfl, stop ?_⟩
      rw [dr, run_cons, if_neg hc]
  · rw [decide_eq_false (show ¬ (e : Int) < (x.length : Int) by omega)]
    refine iteF (iteF ⟨_, rfl, stop ?_⟩)
    rw [List.drop_eq_nil_of_le (by omega)]
    rfl
def tokEnd (cs : List Nat) (s : Nat) : Nat :=
  if cs.getD s 0 ∈ ("-@" : Str).cps.toList ∨ cs.getD s 0 ∈ DIGS.cps.toList then s + 1 + runN DIGS.cps.toList (cs.drop (s + 1))
  else if cs.getD s 0 ∈ ("'$" : Str).cps.toList ∨ cs.getD s 0 ∈ LET.cps.toList then s + 1 + runN OTH.cps.toList (cs.drop (s + 1)) else s + 1
def spTokEnd : Sp := fun vs H Q _ => ∃ (x : Str) (s : Nat), vs = [.str x, .int (s : Nat)] ∧ s < x.length ∧ x.length ≤ 10000 ∧ Q (.int (tokEnd x.cps.toList s : Nat)) H
theorem ok_tokEnd {f : Addr} {fd : FuncData} (F : Fun K "_token_end" "_token_end" s_token_end f fd) (T : TxtP K mg aS) (C_end_of_run : C8.Cal P w K mg base 1 "_end_of_run" spEnd []) : FnOk P w K mg base CX0 2 f fd ["text", "start"] spTokEnd := by
  refine F.ok sc_token_end (fun vs H Q E h => ?_) (fun cdv A outer s H vs Q E hr h => ?_)
  · obtain ⟨_, _, rfl, _⟩ := h
    rfl
  obtain ⟨x, st, rfl, hs, hx, q⟩ := h
  refine ⟨_, (pss_cons (ps_set (i := 2) sc_token_end.nd rfl (Or.inl rfl) (pe_ix ix_str (pv 0) (pv 1) (fun _ _ => rfl)))
    (pss_cons (ps_if (PW.pt (pw_or (pt_cmpR op_in_sign (pv 2) pe_str rfl) (pw_or1 (pt_cmpR op_in_sign (pv 2) (pe_glS (s := DIGS) rfl T.g_DIG) rfl)))) (pss_one (ps_ret (C8.pe_c C_end_of_run hr (by decide) rfl (pa_cons (pv 0) (pa_cons (pe_op op_add (pv 1) pe_int) (pa_cons (pe_glS (s := DIGS) rfl T.g_DIG) pa_nil)))))) pss_nil)
    (pss_cons (ps_if (PW.pt (pw_or (pt_cmpR op_in_sign (pv 2) pe_str rfl) (pw_or1 (pt_cmpR op_in_sign (pv 2) (pe_glS (s := LET) rfl T.g_LET) rfl)))) (pss_one (ps_ret (C8.pe_c C_end_of_run hr (by decide) rfl (pa_cons (pv 0) (pa_cons (pe_op op_add (pv 1) pe_int) (pa_cons (pe_glS (s := OTH) rfl T.g_OTH) pa_nil)))))) pss_nil)
    (pss_one (ps_ret (pe_op op_add (pv 1) pe_int)))))), ?_⟩
  have en : x.cps.toList.length = x.length := (len_list x).symm
  have he2 : st < x.cps.toList.length := by omega
  have eg : x.cps.toList.getD st 0 = x.cps.toList[st] := by rw [List.getD_eq_getElem?_getD, List.getElem?_eq_getElem he2]; rfl
  refine ⟨_, rfl, _, rfl, x, (st : Int), x.cps.toList[st], rfl, rfl, small (by omega), atI_nat (List.getElem?_eq_getElem he2), ?_⟩
  unfold tokEnd at q
  rw [eg] at q
  refine ⟨_, rfl, x.cps.toList[st], "-@", rfl, rfl, _, rfl, ?_⟩
  generalize x.cps.toList[st] = c at q
  have dig : (c ∈ ("-@" : Str).cps.toList ∨ c ∈ DIGS.cps.toList) → Q (.int ((st + 1 + runN DIGS.cps.toList (x.cps.toList.drop (st + 1)) : Nat))) H := fun h => by rw [if_pos h] at q; exact q
  have wrd : ¬ (c ∈ ("-@" : Str).cps.toList ∨ c ∈ DIGS.cps.toList) → (c ∈ ("'$" : Str).cps.toList ∨ c ∈ LET.cps.toList) → Q (.int ((st + 1 + runN OTH.cps.toList (x.cps.toList.drop (st + 1)) : Nat))) H := fun h h2 => by rw [if_neg h, if_pos h2] at q; exact q
  have one_ : ¬ (c ∈ ("-@" : Str).cps.toList ∨ c ∈ DIGS.cps.toList) → ¬ (c ∈ ("'$" : Str).cps.toList ∨ c ∈ LET.cps.toList) → Q (.int ((st + 1 : Nat))) H := fun h h2 => by rw [if_neg h, if_neg h2] at q; exact q
  clear q
  by_cases h1 : c ∈ ("-@" : Str).cps.toList
  · rw [decide_eq_true h1]
    exact iteT (iteT ⟨_, rfl, ⟨_, rfl, _, _, rfl, rfl, x, DIGS, st + 1, rfl, by omega, hx, dig (.inl h1)⟩⟩)
  rw [decide_eq_false h1]
  refine iteF ⟨_, rfl, c, DIGS, rfl, rfl, _, rfl, ?_⟩
  by_cases h2 : c ∈ DIGS.cps.toList
  · rw [decide_eq_true h2]
    exact iteT ⟨_, rfl, ⟨_, rfl, _, _, rfl, rfl, x, DIGS, st + 1, rfl, by omega, hx, dig (.inr h2)⟩⟩
  rw [decide_eq_false h2]
  have n1 : ¬ (c ∈ ("-@" : Str).cps.toList ∨ c ∈ DIGS.cps.toList) := fun z => z.elim h1 h2
  refine iteF ⟨_, rfl, c, "'$", rfl, rfl, _, rfl, ?_⟩
  by_cases h3 : c ∈ ("'$" : Str).cps.toList
  · rw [decide_eq_true h3]
    exact iteT (iteT ⟨_, rfl, ⟨_, rfl, _, _, rfl, rfl, x, OTH, st + 1, rfl, by omega, hx, wrd n1 (.inl h3)⟩⟩)
  rw [decide_eq_false h3]
  refine iteF ⟨_, rfl, c, LET, rfl, rfl, _, rfl, ?_⟩
  by_cases h4 : c ∈ LET.cps.toList
  · rw [decide_eq_true h4]
    exact iteT ⟨_, rfl, ⟨_, rfl, _, _, rfl, rfl, x, OTH, st + 1, rfl, by omega, hx, wrd n1 (.inr h4)⟩⟩
  rw [decide_eq_false h4]
  exact iteF ⟨_, rfl, _, _, rfl, rfl, one_ n1 (fun z => z.elim h3 h4)⟩
/-- a number: digits, no zero ahead of others -/
def isNum (ds : List Nat) (most : Nat) : Bool := decide (1 ≤ ds.length ∧ ds.length ≤ most) && (decide (runN DIGS.cps.toList ds = ds.length) && (decide (ds = [48]) || decide (ds.getD 0 0 ≠ 48)))
def spIsNum : Sp := fun vs H Q _ => ∃ (x : Str) (most : Nat), vs = [.str x, .int (most : Nat)] ∧ x.length ≤ 10000 ∧ Q (.bl (isNum x.cps.toList most)) H
theorem ok_isNum {f : Addr} {fd : FuncData} (F : Fun K "_is_number" "_is_number" s_is_number f fd) (T : TxtP K mg aS) (C_end_of_run : C8.Cal P w K mg base 1 "_end_of_run" spEnd []) : FnOk P w K mg base CX0 2 f fd ["digits", "most"] spIsNum := by
  refine F.ok sc_is_number (fun vs H Q E h => ?_) (fun cdv A outer s H vs Q E hr h => ?_)
  · obtain ⟨_, _, rfl, _⟩ := h
    rfl
  obtain ⟨x, most, rfl, hx, q⟩ := h
  refine ⟨_, (pss_cons (ps_if (PW.pt (pw_or (pt_not (pt_chain op_le op_le pe_int (pe_callB call_len_str (by rfl) T.z_len (by decide +kernel) (pa_cons (pv 0) pa_nil)) (pv 1))) (pw_or1 (pt_cmpR op_ne (C8.pe_c C_end_of_run hr (by decide) rfl (pa_cons (pv 0) (pa_cons pe_int (pa_cons (pe_glS (s := DIGS) rfl T.g_DIG) pa_nil)))) (pe_callB call_len_str (by rfl) T.z_len (by decide +kernel) (pa_cons (pv 0) pa_nil)) (nomark _))))) (pss_one (ps_ret pe_bl)) pss_nil)
    (pss_one (ps_ret (pe_or (pe_cmpR op_eq (pv 0) pe_str (nomark _)) (pe_one (pe_cmpR op_ne (pe_ix ix_str (pv 0) pe_int (fun _ _ => rfl)) pe_str (nomark _))))))), ?_⟩
  have en : x.cps.toList.length = x.length := (len_list x).symm
  refine ⟨_, rfl, x, rfl, small (by omega), le_leV ?_⟩
  unfold isNum at q
  rw [en] at q
  by_cases h1 : 1 ≤ x.length ∧ x.length ≤ most
  · rw [decide_eq_true (show (1 : Int) ≤ (x.length : Int) ∧ (x.length : Int) ≤ (most : Int) by omega)]
    rw [decide_eq_true h1, Bool.true_and] at q
    refine iteF ⟨_, rfl, x, DIGS, 0, rfl, Nat.zero_le _, hx, ⟨_, rfl, x, rfl, small (by omega), rfl, _, rfl, ?_⟩⟩
    rw [List.drop_zero, Nat.zero_add]
    by_cases h2 : runN DIGS.cps.toList x.cps.toList = x.length
    · rw [h2, decide_eq_true (show V.int (x.length : Nat) = V.int (x.length : Nat) from rfl)]
      rw [decide_eq_true h2, Bool.true_and] at q
      have hp : 0 < x.cps.toList.length := by omega
      have eg : x.cps.toList.getD 0 0 = x.cps.toList[0] := by rw [List.getD_eq_getElem?_getD, List.getElem?_eq_getElem hp]; rfl
      rw [eg] at q
      refine iteF ⟨_, rfl, rfl, _, rfl, ?_⟩
      have e0 : x = "0" ↔ x.cps.toList = [48] := ⟨fun e => by rw [e]; decide +kernel, fun e => Str.ext' (Array.toList_inj.mp (e.trans (by decide +kernel : [48] = ("0" : Str).cps.toList)))⟩
      by_cases h3 : x.cps.toList = [48]
      · rw [decide_eq_true h3, Bool.true_or] at q
        rw [decide_eq_true (show V.str x = V.str "0" by rw [e0.mpr h3])]
        exact iteT q
      · rw [decide_eq_false h3, Bool.false_or] at q
        rw [decide_eq_false (show ¬ V.str x = V.str "0" from fun z => h3 (e0.mp (V.str.inj z)))]
        refine iteF ⟨_, rfl, x, 0, x.cps.toList[0], rfl, rfl, small (by omega), atI_nat (j := 0) (List.getElem?_eq_getElem hp), rfl, ?_⟩
        have e1 : (V.str ⟨#[x.cps.toList[0]]⟩ = V.str "0") ↔ x.cps.toList[0] = 48 := ⟨fun z => by
            have := congrArg (fun s : Str => s.cps.toList) (V.str.inj z)
            have e48 : ("0" : Str).cps.toList = [48] := by decide +kernel
            rw [e48] at this
            exact (List.cons.inj this).1, fun z => by rw [z]; exact congrArg V.str (Str.ext' (Array.toList_inj.mp (by decide +kernel)))⟩
        by_cases h4 : x.cps.toList[0] = 48
        · rw [decide_eq_false (fun z => z h4)] at q
          rw [decide_eq_true (e1.mpr h4)]
          exact q
        · rw [decide_eq_true h4] at q
          rw [decide_eq_false (fun z => h4 (e1.mp z))]
          exact q
    · rw [decide_eq_false (show ¬ V.int (runN DIGS.cps.toList x.cps.toList : Nat) = V.int (x.length : Nat) from fun z => h2 (by have := V.int.inj z; omega))]
      rw [decide_eq_false h2, Bool.false_and] at q
      exact iteT q
  · rw [decide_eq_false (show ¬ ((1 : Int) ≤ (x.length : Int) ∧ (x.length : Int) ≤ (most : Int)) by omega)]
    rw [decide_eq_false h1, Bool.false_and] at q
    exact iteT (iteT q)
end
end PK
namespace PK
open PySem L2 _root_.TL
/-! tokens, purely -/
theorem wd_is {x : Str} (h : Wd x) : isWd x = true := by
  obtain ⟨s, r, e, hs⟩ := h.hd
  have a : (x.cps.toList.all fun s => decide (s ∈ OTH.cps.toList)) = true := List.all_eq_true.mpr fun z hz => decide_eq_true (h.al z hz)
  unfold isWd
  rw [decide_eq_true (show 1 ≤ x.length ∧ x.length ≤ 12 from ⟨h.lo, h.hi⟩), a, decide_eq_true (show x.cps.toList.headD 0 ∈ LET.cps.toList by rw [e]; exact hs)]
  rfl
inductive Tk where
  | sg (s : Str)
  | int (n : Int)
  | name (w : Str)
  | addr (n : Int)
  | var (w : Str)
  | word (w : Str)
  | bad
  | fin
deriving DecidableEq
def Tk.kind : Tk → Str
  | .sg s => s
  | .int _ => "int"
  | .name _ => "name"
  | .addr _ => "addr"
  | .var _ => "meta"
  | .word _ => "word"
  | .bad => "invalid"
  | .fin => "end"
def Tk.worth : Tk → PyData
  | .int n => .int n
  | .addr n => .int n
  | .name w => .str w
  | .var w => .str w
  | .word w => .str w
  | _ => .none
abbrev SIGNS : List Str := ["(", ")", "{", "}"]
abbrev SEP : Str := " \n"
def mkS (cs : List Nat) : Str := ⟨cs.toArray⟩
theorem mk'_list (cs : List Nat) : (mkS cs).cps.toList = cs := by unfold mkS; simp
theorem mk'_of (x : Str) : mkS x.cps.toList = x := by unfold mkS; simp
theorem mk'_len (cs : List Nat) : (mkS cs).length = cs.length := by rw [len_list, mk'_list]
/-- the token of a piece -/
def tokOf (p : List Nat) : Tk :=
  if mkS p ∈ SIGNS then .sg (mkS p)
  else if p.headD 0 = 39 ∧ isWd (mkS p.tail) = true then .name (mkS p.tail)
  else if p.headD 0 = 36 ∧ isWd (mkS p.tail) = true then .var (mkS p.tail)
  else if p.headD 0 = 64 ∧ isNum p.tail 9 = true then .addr (NumText.digitsVal p.tail : Nat)
  else if p.headD 0 = 45 ∧ p.tail ≠ [48] ∧ isNum p.tail 15 = true then .int (-(NumText.digitsVal p.tail : Nat))
  else if isNum p 15 = true then .int (NumText.digitsVal p : Nat)
  else if isWd (mkS p) = true then .word (mkS p)
  else .bad
/-- how long the token is with which the signs begin -/
def tokLen : List Nat → Nat
  | [] => 0
  | c :: r =>
    if c ∈ ("-@" : Str).cps.toList ∨ c ∈ DIGS.cps.toList then 1 + runN DIGS.cps.toList r
    else if c ∈ ("'$" : Str).cps.toList ∨ c ∈ LET.cps.toList then 1 + runN OTH.cps.toList r else 1
theorem tokEnd_len {cs : List Nat} {s : Nat} (h : s < cs.length) : tokEnd cs s = s + tokLen (cs.drop s) := by
  rw [List.drop_eq_getElem_cons h]
  have eg : cs.getD s 0 = cs[s] := by rw [List.getD_eq_getElem?_getD, List.getElem?_eq_getElem h]; rfl
  unfold tokEnd tokLen
  rw [eg]
  dsimp only
  repeat' split
  all_goals omega
theorem tokLen_pos : ∀ {cs : List Nat}, cs ≠ [] → 0 < tokLen cs
  | [], h => absurd rfl h
  | c :: r, _ => by
    unfold tokLen
    dsimp only
    repeat' split
    all_goals omega
theorem tokLen_le : ∀ cs : List Nat, tokLen cs ≤ cs.length
  | [] => Nat.le_refl _
  | c :: r => by
    have h1 := runN_le DIGS.cps.toList r
    have h2 := runN_le OTH.cps.toList r
    unfold tokLen
    dsimp only
    rw [List.length_cons]
    repeat' split
    all_goals omega
/-- the tokens of the signs that are left, the first of them at p -/
def scan : Nat → Nat → List Nat → List (Tk × Nat)
  | 0, _, _ => []
  | f + 1, p, cs => match cs with
    | [] => []
    | c :: r => if c ∈ SEP.cps.toList then scan f (p + 1) r else (tokOf ((c :: r).take (tokLen (c :: r))), p) :: scan f (p + tokLen (c :: r)) ((c :: r).drop (tokLen (c :: r)))
theorem scan_nil (f p : Nat) : scan f p [] = [] := by cases f <;> rfl
theorem scan_sep {f p c : Nat} {r : List Nat} (h : c ∈ SEP.cps.toList) : scan (f + 1) p (c :: r) = scan f (p + 1) r := if_pos h
theorem scan_tok {f p c : Nat} {r : List Nat} (h : c ∉ SEP.cps.toList) : scan (f + 1) p (c :: r) = (tokOf ((c :: r).take (tokLen (c :: r))), p) :: scan f (p + tokLen (c :: r)) ((c :: r).drop (tokLen (c :: r))) := if_neg h
/-- the fuel plays no part -/
theorem scan_fuel : ∀ (n f g p : Nat) (cs : List Nat), cs.length ≤ n → cs.length ≤ f → cs.length ≤ g → scan f p cs = scan g p cs := by
  intro n
  induction n with
  | zero =>
    intro f g p cs hn _ _
    have : cs = [] := List.length_eq_zero_iff.mp (Nat.le_zero.mp hn)
    rw [this, scan_nil, scan_nil]
  | succ n ih =>
    intro f g p cs hn hf hg
    cases cs with
    | nil => rw [scan_nil, scan_nil]
    | cons c r =>
      rw [List.length_cons] at hn hf hg
      obtain ⟨f, rfl⟩ : ∃ f', f = f' + 1 := ⟨f - 1, by omega⟩
      obtain ⟨g, rfl⟩ : ∃ g', g = g' + 1 := ⟨g - 1, by omega⟩
      by_cases h : c ∈ SEP.cps.toList
      · rw [scan_sep h, scan_sep h]
        exact ih f g _ r (by omega) (by omega) (by omega)
      · rw [scan_tok h, scan_tok h]
        have h0 : 0 < tokLen (c :: r) := tokLen_pos (by simp)
        have hl : ((c :: r).drop (tokLen (c :: r))).length ≤ r.length := by rw [List.length_drop, List.length_cons]; omega
        rw [ih f g _ _ (by omega) (by omega) (by omega)]
/-- all tokens of the signs -/
def toks (cs : List Nat) : List (Tk × Nat) := scan cs.length 0 cs ++ [(.fin, cs.length)]
/-- the tokens that are laid in signs -/
def Lays (cs : List Nat) (ts : List Tk) : Prop := ∀ p, (scan cs.length p cs).map (·.1) = ts
theorem lays_nil : Lays [] [] := fun p => rfl
theorem lays_sep {c : Nat} {r : List Nat} {ts : List Tk} (h : c ∈ SEP.cps.toList) (l : Lays r ts) : Lays (c :: r) ts := fun p => by
  show (scan (r.length + 1) p (c :: r)).map _ = _
  rw [scan_sep h]
  exact l _
theorem lays_seps : ∀ {b : List Nat} {u : List Nat} {ts : List Tk}, (∀ c ∈ b, c ∈ SEP.cps.toList) → Lays u ts → Lays (b ++ u) ts
  | [], _, _, _, l => l
  | c :: b, u, ts, h, l => lays_sep (h c (.head _)) (lays_seps (fun x hx => h x (.tail _ hx)) l)
/-- a piece that ends where it ends, whatever sign follows (of those for which S) -/
def Piece (p : List Nat) (S : Nat → Prop) : Prop := p ≠ [] ∧ p.headD 0 ∉ SEP.cps.toList ∧ ∀ u : List Nat, (∀ c ∈ u.head?, S c) → tokLen (p ++ u) = p.length
theorem lays_tok {p u : List Nat} {S : Nat → Prop} {ts : List Tk} (hp : Piece p S) (hu : ∀ c ∈ u.head?, S c) (l : Lays u ts) : Lays (p ++ u) (tokOf p :: ts) := fun k => by
  obtain ⟨hn, hs, ht⟩ := hp
  cases p with
  | nil => exact absurd rfl hn
  | cons c r =>
    have e := ht u hu
    show (scan ((r ++ u).length + 1) k (c :: (r ++ u))).map _ = _
    rw [scan_tok (show c ∉ SEP.cps.toList from hs), List.map_cons]
    rw [show c :: (r ++ u) = (c :: r) ++ u from rfl, e, List.take_left, List.drop_left]
    rw [scan_fuel u.length _ u.length _ u (Nat.le_refl _) (by rw [List.length_append]; omega) (Nat.le_refl _), l]
theorem run_all (S : List Nat) : ∀ (r u : List Nat), (∀ c ∈ r, c ∈ S) → (∀ c ∈ u.head?, c ∉ S) → runN S (r ++ u) = r.length
  | [], [], _, _ => rfl
  | [], c :: u, _, h => by rw [List.nil_append, run_cons, if_neg (h c rfl)]; rfl
  | c :: r, u, hr, hu => by
    rw [List.cons_append, run_cons, if_pos (hr c (.head _)), run_all S r u (fun x hx => hr x (.tail _ hx)) hu]; rfl
theorem piece_sign {s : Nat} (h : s ∈ ([40, 41, 123, 125] : List Nat)) : Piece [s] (fun _ => True) := by
  have key : ∀ s ∈ ([40, 41, 123, 125] : List Nat), s ∉ SEP.cps.toList ∧ ¬ (s ∈ ("-@" : Str).cps.toList ∨ s ∈ DIGS.cps.toList) ∧ ¬ (s ∈ ("'$" : Str).cps.toList ∨ s ∈ LET.cps.toList) := by decide +kernel
  obtain ⟨h1, h2, h3⟩ := key s h
  refine ⟨by simp, h1, fun u _ => ?_⟩
  show tokLen (s :: u) = 1
  unfold tokLen
  dsimp only
  rw [if_neg h2, if_neg h3]
theorem piece_word {c : Nat} {r : List Nat} (h : c ∈ ("'$" : Str).cps.toList ∨ c ∈ LET.cps.toList) (hr : ∀ x ∈ r, x ∈ OTH.cps.toList) : Piece (c :: r) (fun s => s ∉ OTH.cps.toList) := by
  have key : ∀ s : Nat, s ∈ ("'$" : Str).cps.toList ++ LET.cps.toList → s ∉ SEP.cps.toList ∧ ¬ (s ∈ ("-@" : Str).cps.toList ∨ s ∈ DIGS.cps.toList) := by decide +kernel
  obtain ⟨h1, h2⟩ := key c (List.mem_append.mpr h)
  refine ⟨by simp, h1, fun u hu => ?_⟩
  show tokLen (c :: (r ++ u)) = r.length + 1
  unfold tokLen
  dsimp only
  rw [if_neg h2, if_pos h, run_all _ r u hr hu]
  omega
theorem piece_num {c : Nat} {r : List Nat} (h : c ∈ ("-@" : Str).cps.toList ∨ c ∈ DIGS.cps.toList) (hr : ∀ x ∈ r, x ∈ DIGS.cps.toList) : Piece (c :: r) (fun s => s ∉ DIGS.cps.toList) := by
  have key : ∀ s : Nat, s ∈ ("-@" : Str).cps.toList ++ DIGS.cps.toList → s ∉ SEP.cps.toList := by decide +kernel
  refine ⟨by simp, key c (List.mem_append.mpr h), fun u hu => ?_⟩
  show tokLen (c :: (r ++ u)) = r.length + 1
  unfold tokLen
  dsimp only
  rw [if_pos h, run_all _ r u hr hu]
  omega
theorem dig_oth : ∀ s ∈ DIGS.cps.toList, s ∈ OTH.cps.toList := by decide +kernel
theorem let_oth' : ∀ s ∈ LET.cps.toList, s ∈ OTH.cps.toList := by decide +kernel
theorem Piece.imp {p : List Nat} {S S' : Nat → Prop} (h : Piece p S) (i : ∀ c, S' c → S c) : Piece p S' := ⟨h.1, h.2.1, fun u hu => h.2.2 u fun c hc => i c (hu c hc)⟩
theorem all_dig {ds : List Nat} (h : NumText.AllDigits ds) : ∀ c ∈ ds, c ∈ DIGS.cps.toList := fun c hc => by
  have := h c hc
  have key : ∀ k, k < 10 → 48 + k ∈ DIGS.cps.toList := by decide +kernel
  have z := key (c - 48) (by omega)
  rwa [show 48 + (c - 48) = c by omega] at z
/-- digits as str writes them -/
theorem numL_zero : ∀ (k n : Nat), n < 10 ^ k → numL n = [48] ∨ (numL n).getD 0 0 ≠ 48
  | k, n, h => by
    by_cases h10 : n < 10
    · rw [numL_lt h10]
      by_cases h0 : n = 0
      · exact .inl (by rw [h0])
      · exact .inr (by show 48 + n ≠ 48; omega)
    · cases k with
      | zero => exact absurd h (by show ¬ n < 1; omega)
      | succ k =>
        rw [numL_step (by omega)]
        have hk : n / 10 < 10 ^ k := by rw [Nat.pow_succ] at h; exact Nat.div_lt_of_lt_mul (by rw [Nat.mul_comm]; exact h)
        have ne := numL_ne (n / 10)
        have hd : (numL (n / 10) ++ [48 + n % 10]).getD 0 0 = (numL (n / 10)).getD 0 0 := by
          cases e : numL (n / 10) with
          | nil => exact absurd e ne
          | cons a b => rfl
        rcases numL_zero k (n / 10) hk with z | z
        · have := numL_val (n / 10)
          rw [z] at this
          have : n / 10 = 0 := by rw [← this]; rfl
          omega
        · exact .inr (by rw [hd]; exact z)
theorem num_is {k n : Nat} (hk : 0 < k) (h : n < 10 ^ k) : isNum (numL n) k = true := by
  have h1 := numL_len hk h
  have h0 : 1 ≤ (numL n).length := List.length_pos_iff.mpr (numL_ne n)
  have h2 : runN DIGS.cps.toList (numL n) = (numL n).length := by
    have := run_all DIGS.cps.toList (numL n) [] (all_dig (numL_digits n)) (fun c hc => by cases hc)
    rwa [List.append_nil] at this
  unfold isNum
  rw [decide_eq_true (show 1 ≤ (numL n).length ∧ (numL n).length ≤ k from ⟨h0, h1⟩), decide_eq_true h2, Bool.true_and, Bool.true_and]
  rcases numL_zero k n h with z | z
  · rw [decide_eq_true z, Bool.true_or]
  · rw [decide_eq_true z, Bool.or_true]
theorem num_dig {ds : List Nat} {k : Nat} (h : isNum ds k = true) : NumText.AllDigits ds ∧ ds ≠ [] ∧ ds.length ≤ k := by
  unfold isNum at h
  simp only [Bool.and_eq_true, decide_eq_true_eq] at h
  obtain ⟨⟨h1, h2⟩, h3, _⟩ := h
  refine ⟨?_, fun z => by rw [z] at h1; exact absurd h1 (by decide), h2⟩
  have key : ∀ l : List Nat, runN DIGS.cps.toList l = l.length → ∀ c ∈ l, c ∈ DIGS.cps.toList := by
    intro l
    induction l with
    | nil => intro _ c hc; cases hc
    | cons a r ih =>
      intro e c hc
      rw [run_cons] at e
      by_cases ha : a ∈ DIGS.cps.toList
      · rw [if_pos ha, List.length_cons] at e
        rcases List.mem_cons.mp hc with z | z
        · rw [z]; exact ha
        · exact ih (by omega) c z
      · rw [if_neg ha, List.length_cons] at e; omega
  have d : ∀ c ∈ DIGS.cps.toList, 48 ≤ c ∧ c ≤ 57 := by decide +kernel
  exact fun c hc => d c (key ds h3 c hc)
/-! which tokens pieces are -/
theorem sign_no {p : List Nat} (h : p.headD 0 ∉ ([40, 41, 123, 125] : List Nat)) : mkS p ∉ SIGNS := fun m => by
  have key : ∀ x ∈ SIGNS, x.cps.toList.headD 0 ∈ ([40, 41, 123, 125] : List Nat) := by decide +kernel
  have := key _ m
  rw [mk'_list] at this
  exact h this
theorem tok_sign : ∀ s ∈ ([40, 41, 123, 125] : List Nat), tokOf [s] = .sg (mkS [s]) := by decide +kernel
theorem tok_name {w : Str} (h : Wd w) : tokOf (39 :: w.cps.toList) = .name w := by
  unfold tokOf
  rw [if_neg (sign_no (by show 39 ∉ _; decide)), List.headD_cons, List.tail_cons, mk'_of, if_pos ⟨rfl, wd_is h⟩]
theorem tok_var {w : Str} (h : Wd w) : tokOf (36 :: w.cps.toList) = .var w := by
  unfold tokOf
  rw [if_neg (sign_no (by show 36 ∉ _; decide)), List.headD_cons, List.tail_cons, mk'_of, if_neg (fun z => absurd z.1 (by decide)), if_pos ⟨rfl, wd_is h⟩]
theorem tok_addr {n : Nat} (h : n < 10 ^ 9) : tokOf (64 :: numL n) = .addr (n : Nat) := by
  unfold tokOf
  rw [if_neg (sign_no (by show 64 ∉ _; decide)), List.headD_cons, List.tail_cons, if_neg (fun z => absurd z.1 (by decide)), if_neg (fun z => absurd z.1 (by decide)), if_pos ⟨rfl, num_is (by decide) h⟩, numL_val]
theorem dig_head {ds : List Nat} (h : ∀ c ∈ ds, c ∈ DIGS.cps.toList) (n : ds ≠ []) (l : List Nat) (hl : ∀ c ∈ DIGS.cps.toList, c ∉ l) : ds.headD 0 ∉ l := by
  cases ds with
  | nil => exact absurd rfl n
  | cons a r => exact hl _ (h a (.head _))
theorem tok_nat {n : Nat} (h : n < 10 ^ 15) : tokOf (numL n) = .int (n : Nat) := by
  have hd := dig_head (all_dig (numL_digits n)) (numL_ne n)
  unfold tokOf
  rw [if_neg (sign_no (hd _ (by decide +kernel)))]
  have k : ∀ m, m ∈ ([39, 36, 64, 45] : List Nat) → (numL n).headD 0 ≠ m := fun m hm e => hd [39, 36, 64, 45] (by decide +kernel) (by rw [e]; exact hm)
  rw [if_neg (fun z => k 39 (by decide) z.1), if_neg (fun z => k 36 (by decide) z.1), if_neg (fun z => k 64 (by decide) z.1), if_neg (fun z => k 45 (by decide) z.1), if_pos (num_is (by decide) h), numL_val]
theorem tok_neg {n : Nat} (h : n < 10 ^ 15) (h0 : 0 < n) : tokOf (45 :: numL n) = .int (-(n : Nat)) := by
  have n0 : numL n ≠ [48] := fun e => by
    have := numL_val n
    rw [e] at this
    have : n = 0 := by rw [← this]; rfl
    omega
  unfold tokOf
  rw [if_neg (sign_no (by show 45 ∉ _; decide)), List.headD_cons, List.tail_cons, if_neg (fun z => absurd z.1 (by decide)), if_neg (fun z => absurd z.1 (by decide)), if_neg (fun z => absurd z.1 (by decide)), if_pos ⟨rfl, n0, num_is (by decide) h⟩, numL_val]
theorem tok_word {w : Str} (h : Wd w) : tokOf w.cps.toList = .word w := by
  obtain ⟨s, r, e, hs⟩ := h.hd
  have ll : ∀ (l : List Nat), (∀ c ∈ LET.cps.toList, c ∉ l) → w.cps.toList.headD 0 ∉ l := fun l hl => by rw [e]; exact hl s hs
  unfold tokOf
  rw [if_neg (sign_no (ll _ (by decide +kernel)))]
  have k : ∀ m, m ∈ ([39, 36, 64, 45] : List Nat) → w.cps.toList.headD 0 ≠ m := fun m hm e => ll [39, 36, 64, 45] (by decide +kernel) (by rw [e]; exact hm)
  have nn : isNum w.cps.toList 15 = false := by
    cases hh : isNum w.cps.toList 15 with
    | false => rfl
    | true =>
      have := (num_dig hh).1
      rw [e] at this
      have := this.head
      have key : ∀ c ∈ LET.cps.toList, ¬ (48 ≤ c ∧ c ≤ 57) := by decide +kernel
      exact absurd this (key s hs)
  rw [if_neg (fun z => k 39 (by decide) z.1), if_neg (fun z => k 36 (by decide) z.1), if_neg (fun z => k 64 (by decide) z.1), if_neg (fun z => k 45 (by decide) z.1), if_neg (by rw [nn]; decide), mk'_of, if_pos (wd_is h)]
end PK
namespace PK
open PySem L2 _root_.TL
/-! terms -/
inductive Rm where
  | int (n : Int)
  | name (s : Str)
  | addr (n : Int)
  | var (s : Str)
  | node (c : Str) (ts : List Rm)
  | map (es : List (Str × Rm))
mutual
def Rm.d : Rm → PyData
  | .int n => .tuple [.str "int", .int n]
  | .name s => .tuple [.str "name", .str s]
  | .addr n => .tuple [.str "addr", .int n]
  | .var s => .tuple [.str "meta", .str s]
  | .node c ts => .tuple [.str "node", .str c, .tuple (Rm.ds ts)]
  | .map es => .tuple [.str "map", .tuple (Rm.es es)]
def Rm.ds : List Rm → List PyData
  | [] => []
  | t :: r => t.d :: Rm.ds r
def Rm.es : List (Str × Rm) → List PyData
  | [] => []
  | (w, t) :: r => .tuple [.str w, t.d] :: Rm.es r
end
theorem Rm.ds_map : ∀ ts : List Rm, Rm.ds ts = ts.map Rm.d
  | [] => rfl
  | t :: r => by unfold Rm.ds; rw [Rm.ds_map r]; rfl
theorem Rm.es_map : ∀ es : List (Str × Rm), Rm.es es = es.map fun e => PyData.tuple [.str e.1, e.2.d]
  | [] => rfl
  | (w, t) :: r => by unfold Rm.es; rw [Rm.es_map r]; rfl
/-! reading, purely -/
/-- (too deep?, the position) -/
abbrev PErr := Bool × Nat
abbrev ents (es : List (Str × Rm)) : List (Str × Rm) := es.mergeSort fun a b => decide (a.1.cps.toList ≤ b.1.cps.toList)
def pMany (r : Nat → Except PErr (Rm × Nat)) : Nat → Nat → Except PErr (List Rm × Nat)
  | 0, i => .ok ([], i)
  | n + 1, i => match r i with
    | .error e => .error e
    | .ok (t, j) => match pMany r n j with
      | .error e => .error e
      | .ok (ts, k) => .ok (t :: ts, k)
def pEnts (r : Nat → Except PErr (Rm × Nat)) (tk : List (Tk × Nat)) : Nat → Nat → List (Str × Rm) → Except PErr (List (Str × Rm) × Nat)
  | 0, i, acc => .ok (acc, i)
  | n + 1, i, acc => match tk[i]? with
    | some (.name w, _) => if w ∈ acc.map (·.1) then .ok (acc, i) else match r (i + 1) with
      | .error e => .error e
      | .ok (t, j) => pEnts r tk n j (acc ++ [(w, t)])
    | _ => .ok (acc, i)
def pClose (tk : List (Tk × Nat)) (s : Str) (j : Nat) (t : Rm) : Except PErr (Rm × Nat) := match tk[j]? with
  | some (k, p) => if k.kind = s then .ok (t, j + 1) else .error (false, p)
  | none => .error (false, 0)
def pNode (sig : List (Str × Nat)) (tk : List (Tk × Nat)) (r : Nat → Except PErr (Rm × Nat)) (d i p : Nat) : Except PErr (Rm × Nat) := match tk[i + 1]? with
  | some (.word c, q) => match sig.lookup c with
    | none => .error (false, q)
    | some m => if 60 ≤ d then .error (true, p) else match pMany r m (i + 2) with
      | .error e => .error e
      | .ok (ts, j) => pClose tk ")" j (.node c ts)
  | some (_, q) => .error (false, q)
  | none => .error (false, 0)
def pMap (tk : List (Tk × Nat)) (r : Nat → Except PErr (Rm × Nat)) (d i p : Nat) : Except PErr (Rm × Nat) :=
  if 60 ≤ d then .error (true, p) else match pEnts r tk tk.length (i + 1) [] with
    | .error e => .error e
    | .ok (es, j) => pClose tk "}" j (.map (ents es))
def pTerm (sig : List (Str × Nat)) (tk : List (Tk × Nat)) : Nat → Nat → Nat → Except PErr (Rm × Nat)
  | 0, _, _ => .error (false, 0)
  | f + 1, d, i => match tk[i]? with
    | some (.int n, _) => .ok (.int n, i + 1)
    | some (.name w, _) => .ok (.name w, i + 1)
    | some (.addr n, _) => .ok (.addr n, i + 1)
    | some (.var w, _) => .ok (.var w, i + 1)
    | some (.word w, p) => if sig.lookup w = some 0 then .ok (.node w [], i + 1) else .error (false, p)
    | some (.sg s, p) =>
      if s = "{" then pMap tk (pTerm sig tk f (d + 1)) d i p
      else if s = "(" then
        if sig = [] then .error (false, p) else pNode sig tk (pTerm sig tk f (d + 1)) d i p
      else .error (false, p)
    | some (_, p) => .error (false, p)
    | none => .error (false, 0)
/-- the whole reading -/
def pRead (sig : List (Str × Nat)) (cs : List Nat) : Except PErr Rm := match pTerm sig (toks cs) 61 0 0 with
  | .error e => .error e
  | .ok (t, j) => match (toks cs)[j]? with
    | some (k, p) => if k = .fin then .ok t else .error (false, p)
    | none => .error (false, 0)
/-! the tokens of a term: Fl n: with at most n open signs within each other -/
def Leaf (sig : List (Str × Nat)) : Rm → List Tk → Prop
  | .int n, ts => ts = [.int n]
  | .name w, ts => ts = [.name w]
  | .addr n, ts => ts = [.addr n]
  | .var w, ts => ts = [.var w]
  | .node c [], ts => ts = [.word c] ∧ sig.lookup c = some 0
  | _, _ => False
def FlL (R : Rm → List Tk → Prop) : List Rm → List Tk → Prop
  | [], b => b = []
  | t :: r, b => ∃ a b', b = a ++ b' ∧ R t a ∧ FlL R r b'
def FlE (R : Rm → List Tk → Prop) : List (Str × Rm) → List Tk → Prop
  | [], b => b = []
  | (w, t) :: r, b => ∃ a b', b = .name w :: (a ++ b') ∧ R t a ∧ FlE R r b'
def Fl (sig : List (Str × Nat)) : Nat → Rm → List Tk → Prop
  | 0, t, ts => Leaf sig t ts
  | n + 1, t, ts => Leaf sig t ts ∨ (∃ c us body, t = .node c us ∧ sig.lookup c = some us.length ∧ FlL (Fl sig n) us body ∧ ts = .sg "(" :: .word c :: (body ++ [.sg ")"])) ∨
    ∃ es body, t = .map (ents es) ∧ (es.map (·.1)).Nodup ∧ FlE (Fl sig n) es body ∧ ts = .sg "{" :: (body ++ [.sg "}"])
/-- these tokens stand from i on -/
def At (tk : List (Tk × Nat)) (i : Nat) (ts : List Tk) : Prop := ∃ rest, (tk.drop i).map (·.1) = ts ++ rest
theorem At.hd {tk : List (Tk × Nat)} {i : Nat} {t : Tk} {ts : List Tk} (h : At tk i (t :: ts)) : (∃ p, tk[i]? = some (t, p)) ∧ At tk (i + 1) ts := by
  obtain ⟨rest, e⟩ := h
  cases d : tk.drop i with
  | nil => rw [d] at e; simp at e
  | cons x r =>
    rw [d] at e
    simp only [List.map_cons, List.cons_append, List.cons.injEq] at e
    have g : tk[i]? = some x := by
      have := congrArg (·[0]?) d
      simpa using this
    have r' : tk.drop (i + 1) = r := by
      have := congrArg List.tail d
      simpa using this
    exact ⟨⟨x.2, by rw [g, ← e.1]⟩, rest, by rw [r']; exact e.2⟩
theorem At.app {tk : List (Tk × Nat)} {i : Nat} {a b : List Tk} (h : At tk i (a ++ b)) : At tk i a ∧ At tk (i + a.length) b := by
  obtain ⟨rest, e⟩ := h
  refine ⟨⟨b ++ rest, by rw [e, List.append_assoc]⟩, rest, ?_⟩
  have := congrArg (List.drop a.length) e
  rw [List.append_assoc, List.drop_left, ← List.map_drop, List.drop_drop] at this
  exact this
theorem many_ok {R : Rm → List Tk → Prop} {tk : List (Tk × Nat)} {r : Nat → Except PErr (Rm × Nat)} (hr : ∀ t a i, R t a → At tk i a → r i = .ok (t, i + a.length)) :
    ∀ (us : List Rm) (b : List Tk) (i : Nat), FlL R us b → At tk i b → pMany r us.length i = .ok (us, i + b.length)
  | [], b, i, h, _ => by
    have : b = [] := h
    subst this; rfl
  | t :: us, b, i, h, ha => by
    obtain ⟨a, b', rfl, h1, h2⟩ := h
    obtain ⟨x1, x2⟩ := ha.app
    rw [List.length_cons]
    unfold pMany
    rw [hr t a i h1 x1]
    dsimp only
    rw [many_ok hr us b' _ h2 x2, List.length_append]
    dsimp only
    rw [Nat.add_assoc]
theorem ents_ok {R : Rm → List Tk → Prop} {tk : List (Tk × Nat)} {r : Nat → Except PErr (Rm × Nat)} (hr : ∀ t a i, R t a → At tk i a → r i = .ok (t, i + a.length)) :
    ∀ (es : List (Str × Rm)) (b : List Tk) (i n : Nat) (acc : List (Str × Rm)), FlE R es b → At tk i (b ++ [.sg "}"]) → b.length < n → ((acc ++ es).map (·.1)).Nodup → pEnts r tk n i acc = .ok (acc ++ es, i + b.length)
  | [], b, i, n, acc, h, ha, hn, _ => by
    have : b = [] := h
    subst this
    obtain ⟨⟨p, e⟩, _⟩ := At.hd ha
    obtain ⟨n, rfl⟩ : ∃ m, n = m + 1 := ⟨n - 1, by simp at hn; omega⟩
    unfold pEnts
    rw [e, List.append_nil]
    rfl
  | (w, t) :: es, b, i, n, acc, h, ha, hn, nd => by
    obtain ⟨a, b', rfl, h1, h2⟩ := h
    rw [List.cons_append, List.append_assoc] at ha
    obtain ⟨⟨p, e⟩, ha2⟩ := At.hd ha
    obtain ⟨x1, x2⟩ := ha2.app
    rw [List.length_cons, List.length_append] at hn
    obtain ⟨n, rfl⟩ : ∃ m, n = m + 1 := ⟨n - 1, by omega⟩
    have nw : w ∉ acc.map (·.1) := fun z => by
      rw [List.map_append, List.map_cons] at nd
      exact (List.nodup_append.mp nd).2.2 w z w (.head _) rfl
    unfold pEnts
    rw [e]
    dsimp only
    rw [if_neg nw, hr t a _ h1 x1]
    dsimp only
    rw [ents_ok hr es b' _ n (acc ++ [(w, t)]) h2 x2 (by omega) (by rw [List.append_assoc]; exact nd), List.append_assoc, List.length_cons, List.length_append]
    congr 2
    omega
theorem close_ok {tk : List (Tk × Nat)} {s : Str} {j : Nat} {t : Rm} (h : At tk j [.sg s]) : pClose tk s j t = .ok (t, j + 1) := by
  obtain ⟨⟨p, e⟩, _⟩ := h.hd
  unfold pClose
  rw [e]
  exact if_pos rfl
theorem At.len {tk : List (Tk × Nat)} {i : Nat} {a : List Tk} (h : At tk i a) : a.length ≤ tk.length := by
  obtain ⟨rest, e⟩ := h
  have := congrArg List.length e
  rw [List.length_map, List.length_drop, List.length_append] at this
  omega
theorem leaf_ok {sig : List (Str × Nat)} {tk : List (Tk × Nat)} {f d i : Nat} {t : Rm} {ts : List Tk} (h : Leaf sig t ts) (ha : At tk i ts) : pTerm sig tk (f + 1) d i = .ok (t, i + ts.length) := by
  unfold Leaf at h
  split at h
  all_goals try exact h.elim
  all_goals first
    | (obtain ⟨rfl, hl⟩ := h; obtain ⟨⟨p, e⟩, _⟩ := ha.hd; unfold pTerm; rw [e]; dsimp only; rw [if_pos hl]; rfl)
    | (subst h; obtain ⟨⟨p, e⟩, _⟩ := ha.hd; unfold pTerm; rw [e]; rfl)
theorem read_ok {sig : List (Str × Nat)} {tk : List (Tk × Nat)} : ∀ (n : Nat) (t : Rm) (ts : List Tk) (f d i : Nat), Fl sig n t ts → At tk i ts → n + d ≤ 60 → n < f → pTerm sig tk f d i = .ok (t, i + ts.length) := by
  intro n
  induction n with
  | zero =>
    intro t ts f d i h ha _ hf
    obtain ⟨f, rfl⟩ : ∃ m, f = m + 1 := ⟨f - 1, by omega⟩
    exact leaf_ok h ha
  | succ n ih =>
    intro t ts f d i h ha hd hf
    obtain ⟨f, rfl⟩ : ∃ m, f = m + 1 := ⟨f - 1, by omega⟩
    have hr : ∀ t a i, Fl sig n t a → At tk i a → pTerm sig tk f (d + 1) i = .ok (t, i + a.length) := fun t a i h1 h2 => ih t a f (d + 1) i h1 h2 (by omega) (by omega)
    rcases h with h | ⟨c, us, body, rfl, hl, hb, rfl⟩ | ⟨es, body, rfl, nd, hb, rfl⟩
    · exact leaf_ok h ha
    · obtain ⟨⟨p, e⟩, h1⟩ := ha.hd
      obtain ⟨⟨q, e2⟩, h2⟩ := h1.hd
      obtain ⟨h3, h4⟩ := h2.app
      unfold pTerm
      rw [e]
      dsimp only
      rw [if_neg (by decide +kernel), if_pos rfl, if_neg (fun z => by rw [z] at hl; cases hl)]
      unfold pNode
      rw [e2]
      dsimp only
      rw [hl]
      dsimp only
      rw [if_neg (by omega), many_ok hr us body _ hb h3]
      dsimp only
      rw [close_ok h4]
      simp only [List.length_cons, List.length_append, List.length_nil]
      congr 2
      omega
    · obtain ⟨⟨p, e⟩, h1⟩ := ha.hd
      obtain ⟨_, h4⟩ := h1.app
      have hlen := ha.len
      simp only [List.length_cons, List.length_append, List.length_nil] at hlen
      unfold pTerm
      rw [e]
      dsimp only
      rw [if_pos rfl]
      unfold pMap
      rw [if_neg (by omega), ents_ok hr es body _ _ [] hb h1 (by omega) nd]
      dsimp only
      rw [List.nil_append, close_ok h4]
      simp only [List.length_cons, List.length_append, List.length_nil]
      congr 2
      omega
/-- a text in which the tokens of a term lie is read -/
theorem text_ok {sig : List (Str × Nat)} {cs : List Nat} {n : Nat} {t : Rm} {ts : List Tk} (hl : Lays cs ts) (hf : Fl sig n t ts) (hn : n ≤ 60) : pRead sig cs = .ok t := by
  have e : (toks cs).map (·.1) = ts ++ [.fin] := by
    unfold toks
    rw [List.map_append, hl 0]; rfl
  have ha : At (toks cs) 0 ts := ⟨[.fin], by rw [List.drop_zero]; exact e⟩
  have h2 : (toks cs)[ts.length]?.map (·.1) = some .fin := by
    rw [← List.getElem?_map, e]
    simp
  unfold pRead
  rw [read_ok n t ts 61 0 0 hf ha (by omega) (by omega)]
  dsimp only
  rw [Nat.zero_add]
  cases g : (toks cs)[ts.length]? with
  | none => rw [g] at h2; cases h2
  | some x =>
    rw [g] at h2
    obtain ⟨k, p⟩ := x
    have : k = .fin := by simpa using h2
    dsimp only
    rw [if_pos this]
/-! where reading stops -/
def Ended (tk : List (Tk × Nat)) : Prop := ∃ tk' p, tk = tk' ++ [(Tk.fin, p)]
theorem Ended.lt {tk : List (Tk × Nat)} (h : Ended tk) {i : Nat} {k : Tk} {p : Nat} (e : tk[i]? = some (k, p)) (hk : k ≠ .fin) : i + 1 < tk.length := by
  obtain ⟨tk', q, rfl⟩ := h
  have hi := (List.getElem?_eq_some_iff.mp e).1
  rw [List.length_append, List.length_singleton] at hi ⊢
  by_cases z : i = tk'.length
  · subst z
    simp at e
    exact absurd e.1.symm hk
  · omega
theorem many_lt {r : Nat → Except PErr (Rm × Nat)} {n : Nat} (hr : ∀ i t j, i < n → r i = .ok (t, j) → i < j ∧ j < n) : ∀ (m i : Nat) (ts : List Rm) (j : Nat), i < n → pMany r m i = .ok (ts, j) → i ≤ j ∧ j < n
  | 0, i, ts, j, hi, h => by cases h; exact ⟨Nat.le_refl _, hi⟩
  | m + 1, i, ts, j, hi, h => by
    unfold pMany at h
    cases e : r i with
    | error x => rw [e] at h; cases h
    | ok x =>
      obtain ⟨t, k⟩ := x
      rw [e] at h
      dsimp only at h
      obtain ⟨a, b⟩ := hr i t k hi e
      cases e2 : pMany r m k with
      | error x => rw [e2] at h; cases h
      | ok x =>
        obtain ⟨us, l⟩ := x
        rw [e2] at h
        dsimp only at h
        cases h
        have := many_lt hr m k us j b e2
        omega
theorem ents_lt {tk : List (Tk × Nat)} (he : Ended tk) {r : Nat → Except PErr (Rm × Nat)} (hr : ∀ i t j, i < tk.length → r i = .ok (t, j) → i < j ∧ j < tk.length) :
    ∀ (m i : Nat) (acc es : List (Str × Rm)) (j : Nat), i < tk.length → pEnts r tk m i acc = .ok (es, j) → i ≤ j ∧ j < tk.length
  | 0, i, acc, es, j, hi, h => by cases h; exact ⟨Nat.le_refl _, hi⟩
  | m + 1, i, acc, es, j, hi, h => by
    unfold pEnts at h
    split at h
    · rename_i w p e
      split at h
      · cases h; exact ⟨Nat.le_refl _, hi⟩
      · have h1 := he.lt e (by intro z; cases z)
        cases e2 : r (i + 1) with
        | error x => rw [e2] at h; cases h
        | ok x =>
          obtain ⟨t, k⟩ := x
          rw [e2] at h
          dsimp only at h
          obtain ⟨a, b⟩ := hr _ t k h1 e2
          have := ents_lt he hr m k _ es j b h
          omega
    · cases h; exact ⟨Nat.le_refl _, hi⟩
theorem close_lt {tk : List (Tk × Nat)} (he : Ended tk) {s : Str} (hs : s ≠ "end") {j k : Nat} {t u : Rm} (h : pClose tk s j t = .ok (u, k)) : u = t ∧ k = j + 1 ∧ k < tk.length := by
  unfold pClose at h
  split at h
  · rename_i x p e
    split at h
    · rename_i ks
      cases h
      exact ⟨rfl, rfl, he.lt e (fun z => hs (by rw [← ks, z]; rfl))⟩
    · cases h
  · cases h
theorem term_lt {sig : List (Str × Nat)} {tk : List (Tk × Nat)} (he : Ended tk) : ∀ (f d i : Nat) (t : Rm) (j : Nat), i < tk.length → pTerm sig tk f d i = .ok (t, j) → i < j ∧ j < tk.length := by
  intro f
  induction f with
  | zero => intro d i t j _ h; cases h
  | succ f ih =>
    intro d i t j hi h
    have hr : ∀ i t j, i < tk.length → pTerm sig tk f (d + 1) i = .ok (t, j) → i < j ∧ j < tk.length := fun i t j h1 h2 => ih (d + 1) i t j h1 h2
    unfold pTerm at h
    split at h
    · rename_i e; cases h; exact ⟨by omega, he.lt e (by intro z; cases z)⟩
    · rename_i e; cases h; exact ⟨by omega, he.lt e (by intro z; cases z)⟩
    · rename_i e; cases h; exact ⟨by omega, he.lt e (by intro z; cases z)⟩
    · rename_i e; cases h; exact ⟨by omega, he.lt e (by intro z; cases z)⟩
    · rename_i e
      split at h
      · cases h; exact ⟨by omega, he.lt e (by intro z; cases z)⟩
      · cases h
    · rename_i s p e
      have h1 := he.lt e (by intro z; cases z)
      split at h
      · unfold pMap at h
        split at h
        · cases h
        · split at h
          · cases h
          · rename_i es k e2
            obtain ⟨a, b⟩ := ents_lt he hr _ _ _ _ _ h1 e2
            obtain ⟨_, c1, c2⟩ := close_lt he (by decide +kernel) h
            omega
      · split at h
        · split at h
          · cases h
          · unfold pNode at h
            split at h
            · rename_i c q e2
              have h2 := he.lt e2 (by intro z; cases z)
              split at h
              · cases h
              · split at h
                · cases h
                · split at h
                  · cases h
                  · rename_i ts k e3
                    obtain ⟨a, b⟩ := many_lt hr _ _ _ _ h2 e3
                    obtain ⟨_, c1, c2⟩ := close_lt he (by decide +kernel) h
                    omega
            · cases h
            · cases h
        · cases h
    · cases h
    · cases h
theorem toks_ended (cs : List Nat) : Ended (toks cs) := ⟨_, _, rfl⟩
end PK
namespace PK
open PySem L2 _root_.TL
/-! the program's tokens -/
theorem DtAll.length {K : PySem.W.Frag} {H : Hp} : ∀ {xs : List V} {ds : List PyData}, DtAll K H xs ds → xs.length = ds.length
  | _, _, .nil => rfl
  | _, _, .cons _ r => by rw [List.length_cons, List.length_cons, DtAll.length r]
/-- a list grows by one item of data -/
theorem DtAll.snoc {K : PySem.W.Frag} {H H1 : Hp} {D : Addr} {vs : List V} {ds : List PyData} {v : V} {d : PyData} (da : DtAll K H vs ds) (sm : Same H H1) (hD : H1 D = some (.lst vs)) (dv : Dt K H1 v d) : DtAll K (L2.upd H1 D (.lst (vs ++ [v]))) (vs ++ [v]) (ds ++ [d]) :=
  DtAll.mono (fun _ _ z => seqT_upd z hD) _ _ (DtAll.append (da.same sm) (.cons dv .nil))
def tkD (t : Tk × Nat) : PyData := .tuple [.str t.1.kind, t.1.worth, .int (t.2 : Nat)]
def spTok (K : PySem.W.Frag) : Sp := fun vs H Q _ => ∃ (x : Str) (p : Nat), vs = [.str x, .int (p : Nat)] ∧ x.cps.toList ≠ [] ∧ x.length ≤ 10000 ∧ ∀ H' v, Same H H' → Dt K H' v (tkD (tokOf x.cps.toList, p)) → Q v H'
theorem cut1 (x : Str) (h : x.cps.toList ≠ []) : cutS x (some 1) none = mkS x.cps.toList.tail := by
  have e := len_list x
  have h0 : 0 < x.cps.toList.length := List.length_pos_iff.mpr h
  unfold cutS mkS
  have s1 : HT.sIx x.length 0 (some 1) = 1 := by
    have := HT.sIx_nat x.length 0 1
    rw [show ((1 : Nat) : Int) = 1 from rfl] at this
    rw [this]; omega
  rw [s1, HT.sIx_none, List.take_of_length_le (by rw [List.length_drop]; omega)]
  cases x.cps.toList <;> rfl
theorem cutM (x : Str) {a b : Nat} (h : a ≤ b) (hb : b ≤ x.length) : cutS x (some (a : Nat)) (some (b : Nat)) = mkS ((x.cps.toList.drop a).take (b - a)) := by
  unfold cutS mkS
  rw [HT.sIx_nat, HT.sIx_nat, show min a x.length = a by omega, show min b x.length = b by omega]
theorem int_of {ds : List Nat} {k : Nat} (hk : k ≤ 640) (h : isNum ds k = true) : PySem.intText? (mkS ds) = some ((NumText.digitsVal ds : Nat) : Int) ∧ (mkS ds).length ≤ 640 := by
  obtain ⟨h1, h2, h3⟩ := num_dig h
  have e := mk'_list ds
  refine ⟨?_, by rw [mk'_len]; omega⟩
  have := intText_digits (x := mkS ds) (by rw [e]; exact h1) (by rw [e]; exact h2) (by rw [mk'_len]; omega)
  rwa [e] at this
theorem isNum_mk (ds : List Nat) (k : Nat) : isNum (mkS ds).cps.toList k = isNum ds k := by rw [mk'_list]
def tk4 (c : Nat) (r : List Nat) (x : Str) : Tk := if isNum (c :: r) 15 = true then .int (NumText.digitsVal (c :: r) : Nat) else if isWd x = true then .word x else .bad
def tk3 (c : Nat) (r : List Nat) (x : Str) : Tk := if c = 45 ∧ r ≠ [48] ∧ isNum r 15 = true then .int (-(NumText.digitsVal r : Nat)) else tk4 c r x
def tk2 (c : Nat) (r : List Nat) (x : Str) : Tk := if c = 64 ∧ isNum r 9 = true then .addr (NumText.digitsVal r : Nat) else tk3 c r x
def tk1 (c : Nat) (r : List Nat) (x y : Str) : Tk := if c = 36 ∧ isWd y = true then .var y else tk2 c r x
section
variable {P : Program} {w : World} {K : PySem.W.Frag} {mg : Str → Option Value} {base : Heap} {aS : Addr}
abbrev s_token : Stmt := topS 33
theorem sc_token : FnScope ["piece", "position", "first", "rest"] ["piece", "position"] (defScope s_token) := ⟨rfl, rfl, rfl, by decide +kernel, rfl, by decide +kernel, by decide +kernel⟩
-- slots: 0:piece 1:position 2:first 3:rest
abbrev s_tokens_of : Stmt := topS 34
theorem sc_tokens_of : FnScope ["text", "tokens", "at", "end"] ["text"] (defScope s_tokens_of) := ⟨rfl, rfl, rfl, by decide +kernel, rfl, by decide +kernel, by decide +kernel⟩
-- slots: 0:text 1:tokens 2:at 3:end
theorem ok_tok {f : Addr} {fd : FuncData} (F : Fun K "_token" "_token" s_token f fd) (T : TxtP K mg aS) (C_is_word : C8.Cal P w K mg base 1 "is_word" spWord []) (C_is_number : C8.Cal P w K mg base 2 "_is_number" spIsNum []) : FnOk P w K mg base CX0 3 f fd ["piece", "position"] (spTok K) := by
  refine F.ok sc_token (fun vs H Q E h => ?_) (fun cdv A outer s H vs Q E hr h => ?_)
  · obtain ⟨_, _, rfl, _⟩ := h
    rfl
  obtain ⟨x, p, rfl, hx, hl, q⟩ := h
  refine ⟨_, (pss_cons (ps_par (i := 2) (j := 3) (by rfl) sc_token.nd rfl rfl (by decide) rfl rfl (pa_cons (pe_ix ix_str (pv 0) pe_int (fun _ _ => rfl)) (pa_cons (pe_slice sl_str (pv 0) (po_some pe_int) po_none) pa_nil)) (by rfl))
    (pss_cons (ps_if (pt_cmpR op_in_seq (pv 0) (pe_glob (v := .ref aS) rfl T.g_S rfl) rfl) (pss_one (ps_ret (pe_tup (pa_cons (pv 0) (pa_cons pe_non (pa_cons (pv 1) pa_nil)))))) pss_nil)
    (C8.pss_cut (ps_if (PW.pt (pw_and (pt_cmpR op_eq (pv 2) pe_str (nomark _)) (pw_and1 (pt_val (C8.pe_c C_is_word hr (by decide) rfl (pa_cons (pv 3) pa_nil)))))) (pss_one (ps_ret (pe_tup (pa_cons pe_str (pa_cons (pv 3) (pa_cons (pv 1) pa_nil)))))) pss_nil)
    (C8.pss_cut (ps_if (PW.pt (pw_and (pt_cmpR op_eq (pv 2) pe_str (nomark _)) (pw_and1 (pt_val (C8.pe_c C_is_word hr (by decide) rfl (pa_cons (pv 3) pa_nil)))))) (pss_one (ps_ret (pe_tup (pa_cons pe_str (pa_cons (pv 3) (pa_cons (pv 1) pa_nil)))))) pss_nil)
    (C8.pss_cut (ps_if (PW.pt (pw_and (pt_cmpR op_eq (pv 2) pe_str (nomark _)) (pw_and1 (pt_val (C8.pe_c C_is_number hr (by decide) rfl (pa_cons (pv 3) (pa_cons (pe_glI (n := 9) rfl T.g_MA) pa_nil))))))) (pss_one (ps_ret (pe_tup (pa_cons pe_str (pa_cons (pe_callTy call_int_str (by rfl) T.z_int (by decide +kernel) (pa_cons (pv 3) pa_nil)) (pa_cons (pv 1) pa_nil)))))) pss_nil)
    (C8.pss_cut (ps_if (PW.pt (pw_and (pt_cmpR op_eq (pv 2) pe_str (nomark _)) (pw_and (pt_cmpR op_ne (pv 3) pe_str (nomark _)) (pw_and1 (pt_val (C8.pe_c C_is_number hr (by decide) rfl (pa_cons (pv 3) (pa_cons (pe_glI (n := 15) rfl T.g_MI) pa_nil)))))))) (pss_one (ps_ret (pe_tup (pa_cons pe_str (pa_cons (pe_un un_neg (pe_callTy call_int_str (by rfl) T.z_int (by decide +kernel) (pa_cons (pv 3) pa_nil))) (pa_cons (pv 1) pa_nil)))))) pss_nil)
    (pss_cons (ps_if (pt_val (C8.pe_c C_is_number hr (by decide) rfl (pa_cons (pv 0) (pa_cons (pe_glI (n := 15) rfl T.g_MI) pa_nil)))) (pss_one (ps_ret (pe_tup (pa_cons pe_str (pa_cons (pe_callTy call_int_str (by rfl) T.z_int (by decide +kernel) (pa_cons (pv 0) pa_nil)) (pa_cons (pv 1) pa_nil)))))) pss_nil)
    (pss_cons (ps_if (pt_val (C8.pe_c C_is_word hr (by decide) rfl (pa_cons (pv 0) pa_nil))) (pss_one (ps_ret (pe_tup (pa_cons pe_str (pa_cons (pv 0) (pa_cons (pv 1) pa_nil)))))) pss_nil)
    (pss_one (ps_ret (pe_tup (pa_cons pe_str (pa_cons pe_non (pa_cons (pv 1) pa_nil)))))))))))))), ?_⟩
  have en := len_list x
  have hc1 := cut1 x hx
  obtain ⟨c, r, ex⟩ : ∃ c r, x.cps.toList = c :: r := by
    cases e : x.cps.toList with
    | nil => exact absurd e hx
    | cons a r => exact ⟨a, r, rfl⟩
  rw [ex] at en hc1
  rw [List.length_cons] at en
  have lr : (mkS r).length ≤ 10000 := by rw [mk'_len]; omega
  have ex' : mkS (c :: r) = x := by rw [← ex, mk'_of]
  refine ⟨_, rfl, x, 0, c, rfl, rfl, small (by omega), by rw [ex]; exact atI_nat (j := 0) rfl, ?_⟩
  refine ⟨_, rfl, 1, rfl, x, rfl, small (by omega), ?_⟩
  rw [hc1, List.tail_cons]
  rw [ex] at q
  have tup : ∀ {H1 : Hp} {k : Str} {v : V} {e : PyData} {t : Tk}, Same H H1 → tokOf (c :: r) = t → t.kind = k → t.worth = e → Dt K H1 v e → (3 ≤ sizeLine) ∧ ∀ a, H1 a = none → Q (.ref a) (upd H1 a (.tup [.str k, v, .int (p : Nat)])) := fun {H1 k v e t} sm et ek ew dv =>
    ⟨small (by decide), fun a ha => q _ _ (Same.upd sm (sm.free ha)) (by unfold tkD; rw [et]; dsimp only; rw [ek, ew]; exact Dt.mk3 ha (.str _) dv (.int _))⟩
  have et : tokOf (c :: r) = if x ∈ SIGNS then .sg x else if c = 39 ∧ isWd (mkS r) = true then .name (mkS r) else tk1 c r x (mkS r) := by
    unfold tk1 tk2 tk3 tk4
    unfold tokOf
    rw [ex', List.headD_cons, List.tail_cons]
  have exn : isNum x.cps.toList 15 = isNum (c :: r) 15 := by rw [ex]
  have hy : (mkS r).cps.toList = r := mk'_list r
  have hi : ∀ k, k ≤ 640 → isNum r k = true → intText? (mkS r) = some ((NumText.digitsVal r : Nat) : Int) ∧ (mkS r).length ≤ 640 := fun k hk h => int_of hk h
  have hix : isNum (c :: r) 15 = true → intText? x = some ((NumText.digitsVal (c :: r) : Nat) : Int) ∧ x.length ≤ 640 := fun h => by
    have := int_of (by decide) h
    rwa [ex'] at this
  have hz : mkS r = "0" ↔ r = [48] := ⟨fun e => by rw [← hy, e]; decide +kernel, fun e => by rw [e]; decide +kernel⟩
  clear hc1
  generalize mkS r = y at *
  refine ⟨_, _, rfl, _, rfl, aS, _, rfl, .inr (T.signs H), rfl, flat_strs SIGNS, _, rfl, ?_⟩
  rw [show inV (V.str x) [V.str "(", .str ")", .str "{", .str "}"] = decide (x ∈ SIGNS) from inV_str x SIGNS]
  by_cases h1 : x ∈ SIGNS
  · rw [decide_eq_true h1]
    rw [if_pos h1] at et
    exact iteT ⟨_, rfl, _, rfl, tup (Same.refl H) et rfl rfl .non⟩
  rw [decide_eq_false h1]
  rw [if_neg h1] at et
  refine iteF ?_
  have one_eq : ∀ (k : Nat) (z : Str), z.cps.toList = [k] → decide (V.str ⟨#[c]⟩ = V.str z) = decide (c = k) := fun k z hz => by
    by_cases e : c = k
    · rw [decide_eq_true e, decide_eq_true (by rw [e]; exact congrArg V.str (Str.ext' (Array.toList_inj.mp hz.symm)))]
    · rw [decide_eq_false e, decide_eq_false fun z' => e ?_]
      have := congrArg (fun s : Str => s.cps.toList) (V.str.inj z')
      rw [hz] at this
      exact (List.cons.inj this).1
  have e1 := one_eq 39 "'" (by decide +kernel)
  have e2 := one_eq 36 "$" (by decide +kernel)
  have e3 := one_eq 64 "@" (by decide +kernel)
  have e4 := one_eq 45 "-" (by decide +kernel)
  clear one_eq
  generalize (⟨#[c]⟩ : Str) = o at *
  -- a name
  refine ⟨fun σ H1 => σ = [some (.str x), some (.int (p : Nat)), some (.str o), some (.str y)] ∧ Same H H1 ∧ tokOf (c :: r) = tk1 c r x y, ⟨_, rfl, rfl, _, rfl, ?_⟩, ?_⟩
  · rw [e1]
    by_cases hc : c = 39
    · rw [decide_eq_true hc]
      refine iteT ⟨_, rfl, y, rfl, lr, fun H1 sm => ⟨_, rfl, ?_⟩⟩
      by_cases hw : isWd y = true
      · rw [hw]
        rw [if_pos ⟨hc, hw⟩] at et
        exact iteT ⟨_, rfl, _, rfl, tup sm et rfl rfl (.str y)⟩
      · rw [Bool.eq_false_iff.mpr hw]
        exact iteF ⟨rfl, sm, et.trans (if_neg fun z => hw z.2)⟩
    · rw [decide_eq_false hc]
      exact iteF ⟨rfl, Same.refl H, et.trans (if_neg fun z => hc z.1)⟩
  clear et
  rintro σ H1 ⟨rfl, sm1, et⟩
  unfold tk1 at et
  refine ⟨fun σ H1 => σ = [some (.str x), some (.int (p : Nat)), some (.str o), some (.str y)] ∧ Same H H1 ∧ tokOf (c :: r) = tk2 c r x, ⟨_, rfl, rfl, _, rfl, ?_⟩, ?_⟩
  · rw [e2]
    by_cases hc : c = 36
    · rw [decide_eq_true hc]
      refine iteT ⟨_, rfl, y, rfl, lr, fun H2 sm2 => ⟨_, rfl, ?_⟩⟩
      by_cases hw : isWd y = true
      · rw [hw]
        rw [if_pos ⟨hc, hw⟩] at et
        exact iteT ⟨_, rfl, _, rfl, tup (sm1.trans sm2) et rfl rfl (.str y)⟩
      · rw [Bool.eq_false_iff.mpr hw]
        exact iteF ⟨rfl, sm1.trans sm2, et.trans (if_neg fun z => hw z.2)⟩
    · rw [decide_eq_false hc]
      exact iteF ⟨rfl, sm1, et.trans (if_neg fun z => hc z.1)⟩
  clear et
  rintro σ H1 ⟨rfl, sm1, et⟩
  unfold tk2 at et
  refine ⟨fun σ H1 => σ = [some (.str x), some (.int (p : Nat)), some (.str o), some (.str y)] ∧ Same H H1 ∧ tokOf (c :: r) = tk3 c r x, ⟨_, rfl, rfl, _, rfl, ?_⟩, ?_⟩
  · rw [e3]
    by_cases hc : c = 64
    · rw [decide_eq_true hc]
      refine iteT ⟨_, rfl, y, 9, rfl, lr, ⟨_, rfl, ?_⟩⟩
      rw [hy]
      by_cases hw : isNum r 9 = true
      · rw [hw]
        rw [if_pos ⟨hc, hw⟩] at et
        obtain ⟨i1, i2⟩ := hi 9 (by decide) hw
        exact iteT ⟨_, rfl, y, _, rfl, i1, i2, _, rfl, tup sm1 et rfl rfl (.int _)⟩
      · rw [Bool.eq_false_iff.mpr hw]
        exact iteF ⟨rfl, sm1, et.trans (if_neg fun z => hw z.2)⟩
    · rw [decide_eq_false hc]
      exact iteF ⟨rfl, sm1, et.trans (if_neg fun z => hc z.1)⟩
  clear et
  rintro σ H1 ⟨rfl, sm1, et⟩
  unfold tk3 at et
  refine ⟨fun σ H1 => σ = [some (.str x), some (.int (p : Nat)), some (.str o), some (.str y)] ∧ Same H H1 ∧ tokOf (c :: r) = tk4 c r x, ⟨_, rfl, rfl, _, rfl, ?_⟩, ?_⟩
  · rw [e4]
    by_cases hc : c = 45
    · rw [decide_eq_true hc]
      refine iteT ⟨_, rfl, rfl, _, rfl, ?_⟩
      by_cases h0 : r = [48]
      · rw [decide_eq_true (show V.str y = V.str "0" by rw [hz.mpr h0])]
        exact iteF ⟨rfl, sm1, et.trans (if_neg fun z => z.2.1 h0)⟩
      rw [decide_eq_false (show ¬ V.str y = V.str "0" from fun z => h0 (hz.mp (V.str.inj z)))]
      refine iteT ⟨_, rfl, y, 15, rfl, lr, ⟨_, rfl, ?_⟩⟩
      rw [hy]
      by_cases hw : isNum r 15 = true
      · rw [hw]
        rw [if_pos ⟨hc, h0, hw⟩] at et
        obtain ⟨i1, i2⟩ := hi 15 (by decide) hw
        exact iteT ⟨_, rfl, y, _, rfl, i1, i2, _, rfl, _, rfl, tup sm1 et rfl rfl (.int _)⟩
      · rw [Bool.eq_false_iff.mpr hw]
        exact iteF ⟨rfl, sm1, et.trans (if_neg fun z => hw z.2.2)⟩
    · rw [decide_eq_false hc]
      exact iteF ⟨rfl, sm1, et.trans (if_neg fun z => hc z.1)⟩
  clear et
  rintro σ H1 ⟨rfl, sm1, et⟩
  unfold tk4 at et
  refine ⟨_, rfl, x, 15, rfl, by omega, ⟨_, rfl, ?_⟩⟩
  rw [exn]
  by_cases hw : isNum (c :: r) 15 = true
  · rw [hw]
    rw [if_pos hw] at et
    obtain ⟨i1, i2⟩ := hix hw
    exact iteT ⟨_, rfl, x, _, rfl, i1, i2, _, rfl, tup sm1 et rfl rfl (.int _)⟩
  rw [Bool.eq_false_iff.mpr hw]
  rw [if_neg hw] at et
  refine iteF ⟨_, rfl, x, rfl, by omega, fun H2 sm2 => ⟨_, rfl, ?_⟩⟩
  by_cases hw : isWd x = true
  · rw [hw]
    rw [if_pos hw] at et
    exact iteT ⟨_, rfl, _, rfl, tup (sm1.trans sm2) et rfl rfl (.str x)⟩
  · rw [Bool.eq_false_iff.mpr hw]
    rw [if_neg hw] at et
    exact iteF ⟨_, rfl, tup (sm1.trans sm2) et rfl rfl .non⟩
def spToks (K : PySem.W.Frag) : Sp := fun vs H Q _ => ∃ x : Str, vs = [.str x] ∧ x.length ≤ 8000 ∧ ∀ (H' : Hp) (R : Addr) (ws : List V), Same H H' → H R = none → H' R = some (.lst ws) → DtAll K H' ws ((toks x.cps.toList).map tkD) → Q (.ref R) H'
theorem ok_toks {f : Addr} {fd : FuncData} (F : Fun K "_tokens_of" "_tokens_of" s_tokens_of f fd) (T : TxtP K mg aS) (C_token_end : C8.Cal P w K mg base 2 "_token_end" spTokEnd []) (C_token : C8.Cal P w K mg base 3 "_token" (spTok K) []) : FnOk P w K mg base CX0 4 f fd ["text"] (spToks K) := by
  refine F.ok sc_tokens_of (fun vs H Q E h => ?_) (fun cdv A outer s H vs Q E hr h => ?_)
  · obtain ⟨_, rfl, _⟩ := h
    rfl
  obtain ⟨x, rfl, hx, q⟩ := h
  refine ⟨_, (pss_cons (ps_set (i := 1) sc_tokens_of.nd rfl (Or.inl rfl) (pe_lst pa_nil))
    (pss_cons (ps_set (i := 2) sc_tokens_of.nd rfl (Or.inl rfl) pe_int)
    (pss_cons (ps_while PassesOwn.never (pt_cmpR op_lt (pv 2) (pe_callB call_len_str (by rfl) T.z_len (by decide +kernel) (pa_cons (pv 0) pa_nil)) (nomark _)) (pss_one (ps_if (pt_cmpR op_in_sign (pe_ix ix_str (pv 0) (pv 2) (fun _ _ => rfl)) (pe_glS (s := SEP) rfl T.g_SEP) rfl) (pss_one (ps_aug (i := 2) sc_tokens_of.nd rfl (Or.inl rfl) pe_int ip_add)) (pss_cons (ps_set (i := 3) sc_tokens_of.nd rfl (Or.inl rfl) (C8.pe_c C_token_end hr (by decide) rfl (pa_cons (pv 0) (pa_cons (pv 2) pa_nil))))
    (pss_cons (ps_expr (pe_bm PySem.F.plainAttrs_list PySem.F.slot_list_append PySem.F.type_list_append mt_append (pv 1) (pa_cons (C8.pe_c C_token hr (by decide) rfl (pa_cons (pe_slice sl_str (pv 0) (po_some (pv 2)) (po_some (pv 3))) (pa_cons (pv 2) pa_nil))) pa_nil)))
    (pss_one (ps_set (i := 2) sc_tokens_of.nd rfl (Or.inl rfl) (pv 3))))))))
    (pss_cons (ps_expr (pe_bm PySem.F.plainAttrs_list PySem.F.slot_list_append PySem.F.type_list_append mt_append (pv 1) (pa_cons (pe_tup (pa_cons pe_str (pa_cons pe_non (pa_cons (pe_callB call_len_str (by rfl) T.z_len (by decide +kernel) (pa_cons (pv 0) pa_nil)) pa_nil)))) pa_nil)))
    (pss_one (ps_ret (pv 1))))))), ?_⟩
  have en := len_list x
  refine ⟨Nat.zero_le _, fun R hR => ?_⟩
  have sc_len : ∀ (f p : Nat) (cs : List Nat), (scan f p cs).length ≤ cs.length := by
    intro f
    induction f with
    | zero => intro p cs; exact Nat.zero_le _
    | succ f ih =>
      intro p cs
      cases cs with
      | nil => exact Nat.le_refl _
      | cons c r =>
        by_cases h : c ∈ SEP.cps.toList
        · rw [scan_sep h]
          exact Nat.le_succ_of_le (ih _ _)
        · rw [scan_tok h, List.length_cons, List.length_cons]
          have h0 : 0 < tokLen (c :: r) := tokLen_pos (by simp)
          have := ih (p + tokLen (c :: r)) ((c :: r).drop (tokLen (c :: r)))
          rw [List.length_drop, List.length_cons] at this
          omega
  have tot := sc_len x.cps.toList.length 0 x.cps.toList
  refine ⟨fun m σ H' => ∃ (a : Nat) (b : Option V) (ws : List V) (done : List (Tk × Nat)), σ = [some (.str x), some (.ref R), some (.int (a : Nat)), b] ∧ m = x.length - a ∧ a ≤ x.length ∧ Same H H' ∧ H' R = some (.lst ws) ∧ DtAll K H' ws (done.map tkD) ∧
    scan x.cps.toList.length 0 x.cps.toList = done ++ scan (x.cps.toList.drop a).length a (x.cps.toList.drop a), ⟨_, 0, none, [], [], rfl, rfl, Nat.zero_le _, same_new hR, upd_same, .nil, by rw [List.drop_zero]; rfl⟩, ?_⟩
  rintro m σ H' ⟨a, b, ws, done, rfl, rfl, ha, sm, hw, da, es⟩
  have lw : ws.length = done.length := by have := da.length; rw [List.length_map] at this; exact this
  have ld : done.length ≤ 8000 := by
    rw [es, List.length_append] at tot
    omega
  refine ⟨_, rfl, ⟨_, rfl, x, rfl, small (by omega), _, _, rfl, rfl, _, rfl, ?_⟩⟩
  by_cases hl : a < x.length
  · have he2 : a < x.cps.toList.length := by omega
    have dr : x.cps.toList.drop a = x.cps.toList[a] :: x.cps.toList.drop (a + 1) := List.drop_eq_getElem_cons he2
    rw [decide_eq_true (show (a : Int) < (x.length : Int) by omega)]
    refine iteT ⟨fun σ H2 => ∃ (a' : Nat) (b : Option V) (ws : List V) (done : List (Tk × Nat)), a < a' ∧ σ = [some (.str x), some (.ref R), some (.int (a' : Nat)), b] ∧ a' ≤ x.length ∧ Same H H2 ∧ H2 R = some (.lst ws) ∧ DtAll K H2 ws (done.map tkD) ∧
      scan x.cps.toList.length 0 x.cps.toList = done ++ scan (x.cps.toList.drop a').length a' (x.cps.toList.drop a'), ?_, ?_⟩
    · rintro σ' H2 ⟨a', b', ws', done', h1, rfl, h2, h3, h4, h5, h6⟩
      exact ⟨_, by omega, a', b', ws', done', rfl, rfl, h2, h3, h4, h5, h6⟩
    refine ⟨_, rfl, _, rfl, x, (a : Int), x.cps.toList[a], rfl, rfl, small (by omega), atI_nat (List.getElem?_eq_getElem he2), x.cps.toList[a], SEP, rfl, rfl, _, rfl, ?_⟩
    by_cases hc : x.cps.toList[a] ∈ SEP.cps.toList
    · rw [decide_eq_true hc]
      refine iteT ⟨_, rfl, _, _, rfl, rfl, a + 1, b, ws, done, by omega, rfl, by omega, sm, hw, da, ?_⟩
      rw [es, dr, List.length_cons, scan_sep hc]
    · rw [decide_eq_false hc]
      have hte : tokEnd x.cps.toList a = a + tokLen (x.cps.toList.drop a) := tokEnd_len he2
      have hp : 0 < tokLen (x.cps.toList.drop a) := tokLen_pos (by rw [dr]; simp)
      have hle : tokLen (x.cps.toList.drop a) ≤ x.cps.toList.length - a := by
        have := tokLen_le (x.cps.toList.drop a)
        rwa [List.length_drop] at this
      refine iteF ⟨_, rfl, _, rfl, x, a, rfl, hl, by omega, ?_⟩
      rw [hte]
      generalize hn : tokLen (x.cps.toList.drop a) = n at *
      refine ⟨_, rfl, .inl ⟨rfl, _, SqL.of hw⟩, ⟨_, rfl, _, rfl, _, rfl, _, rfl, _, rfl, x, rfl, small (by omega), _, rfl, ?_⟩⟩
      rw [cutM x (by omega) (by omega), show a + n - a = n by omega]
      refine ⟨mkS ((x.cps.toList.drop a).take n), a, rfl, ?_, ?_, fun H2 v sm2 dv => ?_⟩
      · rw [mk'_list]
        exact List.length_pos_iff.mp (by rw [List.length_take, List.length_drop]; omega)
      · rw [mk'_len, List.length_take, List.length_drop]; omega
      · rw [mk'_list] at dv
        have hw2 := sm2 _ _ hw
        refine ⟨R, _, _, rfl, rfl, hw2, smallL (by omega), _, rfl, a + n, _, _, done ++ [(tokOf ((x.cps.toList.drop a).take n), a)], by omega, rfl, by omega, Same.upd (sm.trans sm2) hR, upd_same, ?_, ?_⟩
        · rw [List.map_append]
          exact da.snoc sm2 hw2 dv
        · rw [es, dr, List.length_cons, scan_tok hc, ← dr, hn, List.append_assoc, List.singleton_append]
          congr 2
          rw [List.drop_drop]
          exact scan_fuel _ _ _ _ _ (Nat.le_refl _) (by rw [List.length_drop, List.length_drop]; omega) (Nat.le_refl _)
  · rw [decide_eq_false (show ¬ (a : Int) < (x.length : Int) by omega)]
    rw [List.drop_eq_nil_of_le (by omega), scan_nil, List.append_nil] at es
    refine iteF ⟨_, rfl, .inl ⟨rfl, _, SqL.of hw⟩, ⟨_, rfl, x, rfl, small (by omega), small (by show 3 ≤ _; decide), fun t ht => ?_⟩⟩
    have sm2 := same_new (H := H') (o := .tup [.str "end", .non, .int (x.length : Nat)]) ht
    have hw2 := sm2 _ _ hw
    refine ⟨R, _, _, rfl, rfl, hw2, smallL (by omega), _, rfl, q _ R _ (Same.upd (sm.trans sm2) hR) hR upd_same ?_⟩
    unfold toks
    rw [es, List.map_append]
    refine da.snoc sm2 hw2 ?_
    unfold tkD
    rw [← en]
    exact Dt.mk3 ht (.str _) .non (.int _)
end
end PK
namespace PK
open PySem L2 _root_.TL
/-! errors with a position; methods that may raise -/
abbrev s_initP : Stmt := (C8.clsBody (topS 2)).getD 0 (.Pass ⟨0, 0, 0, 0⟩)
theorem sc_initP : FnScope ["self", "position"] ["self", "position"] (defScope s_initP) := ⟨rfl, rfl, rfl, by decide +kernel, rfl, by decide +kernel, by decide +kernel⟩
structure NoP (K : PySem.W.Frag) (C : Addr) : Prop where
  ox : OexC K C
  p : PySem.W.findIn K (.ref C) "position" = some none
def spIP (K : PySem.W.Frag) : Sp := fun vs H Q _ => ∃ (C a : Addr) (v : V), vs = [.ref a, v] ∧ NoP K C ∧ H a = some (exo a C none) ∧ ∀ dx, H dx = none → dx ≠ a → Q .non (upd (upd H dx (exd dx [("position", v)])) a (exo a C (some dx)))
section
variable {P : Program} {w : World} {K : PySem.W.Frag} {mg : Str → Option Value} {base : Heap}
theorem ok_initP {qual : Str} {f : Addr} {fd : FuncData} (F : Fun K "__init__" qual s_initP f fd) : FnOk P w K mg base CX0 1 f fd ["self", "position"] (spIP K) := by
  refine F.ok sc_initP (fun vs H Q E h => ?_) (fun cdv A outer s H vs Q E hr h => ?_)
  · obtain ⟨_, _, _, rfl, _⟩ := h
    rfl
  obtain ⟨C, a, v, rfl, N, ha, q⟩ := h
  refine ⟨_, (pss_one (ps_ost (pv 0) (pv 1))), ?_⟩
  exact ⟨_, rfl, _, rfl, a, C, rfl, N.ox, N.p, .inl ⟨ha, q⟩⟩
end
structure CalY (P : Program) (w : World) (K : PySem.W.Frag) (mg : Str → Option Value) (base : Heap) (k : Nat) (x : Str) (C : Addr) (sp : Sp) : Prop where
  no : NoP K C
  gC : mg x = some (.ref C)
  ex : ∃ (fI : Addr) (fd : FuncData) (ps : List Str), PySem.W.findIn K (.ref C) "__init__" = some (some (.ref fI)) ∧ PySem.W.typeIn K (.ref fI) = some (.type "function") ∧ FnOk P w K mg base CX0 k fI fd ps sp ∧ Binds K fd ps []
theorem pmk_y {X : Cx} {k j : Nat} {x : Str} {C : Addr} {sp : Sp} {e : Expr} {es : List Expr} {ta : TA} {p pos : Pos} (c : CalY X.prog X.w X.K X.mg X.base k x C sp) (hr : Room j X.A) (hk : k + 1 ≤ j) (hg : Gl X x) (ha : PA X (e :: es) ta)
    (hdb : (x == ("__debug__" : Str)) = false := by decide) (he : starEach (e :: es) X.env = (false, eval e X.env) :: starEach es X.env := by rfl) (hpl : (backTo pos (starEach es X.env)).any (·.1) = false := by rfl) :
    PMk X (.Call (.Name x p) (e :: es) [] pos) (tMkO C sp [] ta) := by
  obtain ⟨fI, fd, ps, i, t, F, b⟩ := c.ex
  exact pmk_oex c.no.ox i t F (hr.mono hk) b .nil pass0 hg c.gC ha hdb he hpl
theorem madeP {K : PySem.W.Frag} {C : Addr} {v : V} {σ : L2.St} {H : Hp} {Q : XK} (N : NoP K C) (q : ∀ d H', Same H H' → H' d = some (.xd [("position", v)]) → Q (.ref C) (some d) H') : tMkO C (spIP K) [] (fun _ H Q => Q [v] H) σ H Q := by
  refine ⟨(by show 1 ≤ 1000; decide), fun a ha => ⟨C, a, v, rfl, N, upd_same, fun d hd hne => ⟨rfl, d, _, upd_same, by rw [upd_ne hne, upd_same], ?_, q d _ ?_ upd_same⟩⟩⟩
  · rwa [upd_ne hne] at hd
  · rw [upd_ne hne] at hd
    intro b o e
    have h1 := ne_of_none e ha
    have h2 := ne_of_none e hd
    rw [upd_ne h2, del_ne h1, upd_ne h1, upd_ne h2, upd_ne h1]; exact e
/-- a def that may raise, called by its name -/
structure CalR (P : Program) (w : World) (K : PySem.W.Frag) (mg : Str → Option Value) (base : Heap) (k : Nat) (x : Str) (sp : Sp) : Prop where
  ex : ∃ (f : Addr) (fd : FuncData) (ps : List Str), FnOk P w K mg base (L2.CX P w) k f fd ps sp ∧ mg x = some (.ref f) ∧ PySem.W.keepIn K (.ref f) = true ∧ Binds K fd ps []
section
variable {X : Cx} {k j : Nat} {x : Str} {sp : Sp} {p pos : Pos} {e : Expr} {es : List Expr} {t : TA} {W : WX}
theorem pe_cr (c : CalR X.prog X.w X.K X.mg X.base k x sp) (hr : Room j X.A) (hk : k ≤ j) (hg : Gl X x) (ha : PA X (e :: es) t)
    (hdb : (x == ("__debug__" : Str)) = false := by decide) (he : starEach (e :: es) X.env = (false, eval e X.env) :: starEach es X.env := by rfl) (hpl : (backTo pos (starEach es X.env)).any (·.1) = false := by rfl) :
    PE X (.Call (.Name x p) (e :: es) [] pos) (tCall sp [] C8.E0 t) := by
  obtain ⟨f, fd, ps, F, hm, kp, b⟩ := c.ex
  exact pe_call F (hr.mono hk) hg hm kp b .nil passL ha hdb he hpl
theorem pe_crS (c : CalR X.prog X.w X.K X.mg X.base k x sp) (tk : Takes X W) (hr : Room j X.A) (hk : k ≤ j) (hg : Gl X x) (ha : PA X (e :: es) t)
    (hdb : (x == ("__debug__" : Str)) = false := by decide) (he : starEach (e :: es) X.env = (false, eval e X.env) :: starEach es X.env := by rfl) (hpl : (backTo pos (starEach es X.env)).any (·.1) = false := by rfl) :
    PE X (.Call (.Name x p) (e :: es) [] pos) (tCallS sp (WE W) t) := by
  obtain ⟨f, fd, ps, F, hm, kp, b⟩ := c.ex
  exact pe_callS F (hr.mono hk) hg hm kp b (fun σ => passAt tk σ) ha hdb he hpl
end
/-- a method that may raise -/
structure CalM (P : Program) (w : World) (K : PySem.W.Frag) (mg : Str → Option Value) (base : Heap) (k : Nat) (C : Addr) (m : Str) (sp : Sp) : Prop where
  cl : Cls K C
  ex : ∃ (f : Addr) (fd : FuncData) (ps : List Str), Meth K C m f ∧ FnOk P w K mg base (L2.CX P w) k f fd ps sp ∧ Binds K fd ps []
section
variable {X : Cx} {k j : Nat} {x m : Str} {sp : Sp} {p pos apos : Pos} {o e : Expr} {es : List Expr} {ta : TE} {t : TA} {C : Addr} {E : XK}
theorem pe_mr {pl : Sem Bool} (c : CalM X.prog X.w X.K X.mg X.base k C m sp) (tk : Takes X (fun cls d _ H => E cls d H)) (hr : Room j X.A) (hk : k ≤ j) (he : PE X o ta) (ha : PA X (e :: es) t)
    (hst : starEach (e :: es) X.env = (false, eval e X.env) :: starEach es X.env := by rfl) (hpl : (backTo pos (starEach es X.env)).any (·.1) = false := by rfl)
    (ht : eval (.Call (.Attribute o m apos) (e :: es) [] pos) X.env = (do
      let ov ← eval o X.env
      standAt apos.atName
      let (f, first) ← holding [ov] (getMethod ov m pl)
      callWith pos f first (backTo pos (starEach (e :: es) X.env)) (backToKw pos (keywordEach [] X.env))) := by rfl) :
    PE X (.Call (.Attribute o m apos) (e :: es) [] pos) (tMeth C m sp [] E ta t) := by
  obtain ⟨f, fd, ps, hm, F, b⟩ := c.ex
  exact pe_meth he c.cl hm F (hr.mono hk) b .nil (passes_call tk fun _ _ _ _ h => h) ha hst hpl ht
theorem pe_crE (c : CalR X.prog X.w X.K X.mg X.base k x sp) (tk : Takes X (fun cls d _ H => E cls d H)) (hr : Room j X.A) (hk : k ≤ j) (hg : Gl X x) (ha : PA X (e :: es) t)
    (hdb : (x == ("__debug__" : Str)) = false := by decide) (he : starEach (e :: es) X.env = (false, eval e X.env) :: starEach es X.env := by rfl) (hpl : (backTo pos (starEach es X.env)).any (·.1) = false := by rfl) :
    PE X (.Call (.Name x p) (e :: es) [] pos) (tCall sp [] E t) := by
  obtain ⟨f, fd, ps, F, hm, kp, b⟩ := c.ex
  exact pe_call F (hr.mono hk) hg hm kp b .nil (passes_call tk fun _ _ _ _ h => h) ha hdb he hpl
end
end PK
namespace PK
open PySem L2 _root_.TL
/-! the reader -/
theorem valV_sig (w : Str) : ∀ sig : List (Str × Nat), valV (sigK sig) (Sum.inr w) = (sig.lookup w).map fun n => V.int (n : Nat)
  | [] => rfl
  | (k, n) :: r => by
    have ih := valV_sig w r
    by_cases h : k = w
    · subst h
      rw [show sigK ((k, n) :: r) = (Sum.inr k, V.int (n : Nat)) :: sigK r from rfl, valV_hd]
      simp [List.lookup]
    · rw [show sigK ((k, n) :: r) = (Sum.inr k, V.int (n : Nat)) :: sigK r from rfl, valV_tl (fun z => h (Sum.inr.inj z)), ih]
      have : (w == k) = false := beq_eq_false_iff_ne.mpr (Ne.symm h)
      simp [List.lookup, this]
abbrev rdF (dS L : Addr) (i : Nat) : List (Str × V) := [("signature", .ref dS), ("tokens", .ref L), ("at", .int (i : Nat))]
structure RTx (K : PySem.W.Frag) (C : Addr) : Prop where
  cl : Cls K C
  nS : NoAttr K C "signature"
  nT : NoAttr K C "tokens"
  nA : NoAttr K C "at"
/-- what stands of a reader -/
structure RdA (K : PySem.W.Frag) (H : Hp) (p C dS L : Addr) (sig : List (Str × Nat)) (tk : List (Tk × Nat)) (i : Nat) : Prop where
  at_ : ∃ dx, H p = some (.ins C dx (rdF dS L i))
  sg : H dS = some (.dK (sigK sig))
  tl : ∃ ws, H L = some (.lst ws) ∧ DtAll K H ws (tk.map tkD)
/-- what the tokens and the signature must be -/
structure TkOk (sig : List (Str × Nat)) (tk : List (Tk × Nat)) : Prop where
  len : tk.length ≤ 100000
  ended : Ended tk
  signs : ∀ s p, (Tk.sg s, p) ∈ tk → s ∈ SIGNS
  few : ∃ N : List Str, N.length < 64 ∧ ∀ w p, (Tk.name w, p) ∈ tk → w ∈ N
  low : ∀ e ∈ sig, e.2 ≤ 1000
section
variable {K : PySem.W.Frag} {H H' H1 : Hp} {p C dS L dx : Addr} {sig : List (Str × Nat)} {tk : List (Tk × Nat)} {i : Nat}
theorem DtAll.get : ∀ {vs : List V} {ds : List PyData} {i : Nat} {d : PyData}, DtAll K H vs ds → ds[i]? = some d → ∃ v, vs[i]? = some v ∧ Dt K H v d
  | _, _, _, _, .nil, e => by simp at e
  | _, _, 0, _, .cons h _, e => by
    simp at e; subst e
    exact ⟨_, rfl, h⟩
  | _, _, i + 1, _, .cons _ r, e => by
    obtain ⟨v, g, h⟩ := DtAll.get (i := i) r (by simpa using e)
    exact ⟨v, by simpa using g, h⟩
theorem Keep.trans {l : Addr} {H H1 H2 : Hp} (x : Keep l H H1) (y : Keep l H1 H2) : Keep l H H2 := fun b o hb h => y b o hb (x b o hb h)
theorem Keep.refl {l : Addr} {H : Hp} : Keep l H H := fun _ _ _ h => h
theorem Keep.ofSame {l : Addr} {H H1 : Hp} (s : Same H H1) : Keep l H H1 := fun b o _ h => s b o h
theorem seqT_keep {a : Addr} {xs : List V} {fs : List (Str × V)} (h : SqT K H a xs) (k : Keep p H H') (hp : H p = some (.ins C dx fs)) : SqT K H' a xs := by
  have ne : ∀ {o : HO}, H a = some o → (∀ C dx fs, o ≠ .ins C dx fs) → a ≠ p := fun e d z => by
    subst z
    rw [hp] at e; cases e
    exact d _ _ _ rfl
  rcases h with (h | ⟨o, h⟩) | h
  · exact .inl (.inl (k _ _ (ne h (fun _ _ _ => HO.noConfusion)) h))
  · exact .inl (.inr ⟨o, k _ _ (ne h (fun _ _ _ => HO.noConfusion)) h⟩)
  · exact .inr h
theorem Dt.keep {d : PyData} {v : V} {fs : List (Str × V)} (h : Dt K H v d) (k : Keep p H H') (hp : H p = some (.ins C dx fs)) : Dt K H' v d := Dt.mono (fun _ _ q => seqT_keep q k hp) d v h
theorem DtAll.keep {d : List PyData} {v : List V} {fs : List (Str × V)} (h : DtAll K H v d) (k : Keep p H H') (hp : H p = some (.ins C dx fs)) : DtAll K H' v d := DtAll.mono (fun _ _ q => seqT_keep q k hp) d v h
theorem RdA.keep (r : RdA K H p C dS L sig tk i) (k : Keep p H H') {j : Nat} (h : ∃ dx, H' p = some (.ins C dx (rdF dS L j))) : RdA K H' p C dS L sig tk j := by
  obtain ⟨dx, hp⟩ := r.at_
  obtain ⟨ws, hw, da⟩ := r.tl
  exact ⟨h, k _ _ (ne_of r.sg hp (fun z => by cases z)) r.sg, ws, k _ _ (ne_of hw hp (fun z => by cases z)) hw, da.keep k hp⟩
theorem RdA.same (r : RdA K H p C dS L sig tk i) (s : Same H H') : RdA K H' p C dS L sig tk i := by
  obtain ⟨dx, hp⟩ := r.at_
  exact r.keep (Keep.ofSame s) ⟨dx, s _ _ hp⟩
theorem RdA.here (r : RdA K H p C dS L sig tk i) {k : Tk} {q : Nat} (e : tk[i]? = some (k, q)) : ∃ ws t w, H L = some (.lst ws) ∧ ws.length = tk.length ∧ ws[i]? = some (.ref t) ∧ SqT K H t [.str k.kind, w, .int (q : Nat)] ∧ Dt K H w k.worth := by
  obtain ⟨ws, hw, da⟩ := r.tl
  have hl := da.length
  rw [List.length_map] at hl
  obtain ⟨v, gv, dv⟩ := DtAll.get da (show (tk.map tkD)[i]? = some (tkD (k, q)) by rw [List.getElem?_map, e]; rfl)
  obtain ⟨t, x, y, z, rfl, st, dx, dy, dz⟩ := Dt.t3 dv
  rw [dx.s, dz.i] at st
  exact ⟨ws, t, y, hw, hl, gv, st, dy⟩
end
section
variable {P : Program} {w : World} {K : PySem.W.Frag} {mg : Str → Option Value} {base : Heap} {aS C CB CD : Addr}
/-- self.tokens[self.at] -/
theorem vHere {σ : L2.St} {H : Hp} {Q : VK} {p dS L : Addr} {sig : List (Str × Nat)} {tk : List (Tk × Nat)} {i : Nat} {k : Tk} {q : Nat} (X : RTx K C) (h : σ[0]? = some (some (.ref p))) (r : RdA K H p C dS L sig tk i) (e : tk[i]? = some (k, q))
    (g : ∀ t w, SqT K H t [.str k.kind, w, .int (q : Nat)] → Dt K H w k.worth → Q (.ref t) H) : tOp (rIxL K) (tFld K (tVar 0) "tokens") (tFld K (tVar 0) "at") σ H Q := by
  obtain ⟨dx, hp⟩ := r.at_
  obtain ⟨ws, t, w, hw, hl, gt, st, dw⟩ := r.here e
  exact ⟨_, h, p, C, dx, _, _, rfl, hp, X.cl, X.nT, rfl, _, h, p, C, dx, _, _, rfl, hp, X.cl, X.nA, rfl, L, ws, (i : Int), _, rfl, rfl, SqL.of hw, atI_nat gt, g t w st dw⟩
def spRTake (K : PySem.W.Frag) (C CB : Addr) : Sp := fun vs H Q E => ∃ (p dS L : Addr) (x : Str) (sig : List (Str × Nat)) (tk : List (Tk × Nat)) (i : Nat) (k : Tk) (q : Nat), vs = [.ref p, .str x] ∧ RdA K H p C dS L sig tk i ∧ tk[i]? = some (k, q) ∧
  (k.kind = x → ∀ v H', Keep p H H' → RdA K H' p C dS L sig tk (i + 1) → Dt K H' v k.worth → Q v H') ∧ (k.kind ≠ x → ∀ d H', Keep p H H' → H' d = some (.xd [("position", .int (q : Nat))]) → E (.ref CB) (some d) H')
abbrev s_Reader_take : Stmt := (C8.clsBody (topS 35)).getD 1 (.Pass ⟨0, 0, 0, 0⟩)
theorem sc_Reader_take : FnScope ["self", "kind", "found", "worth", "position"] ["self", "kind"] (defScope s_Reader_take) := ⟨rfl, rfl, rfl, by decide +kernel, rfl, by decide +kernel, by decide +kernel⟩
-- slots: 0:self 1:kind 2:found 3:worth 4:position
theorem ok_rtake {f : Addr} {fd : FuncData} (F : Fun K "take" "Reader.take" s_Reader_take f fd) (T : TxtP K mg aS) (X : RTx K C) (XB : CalY P w K mg base 1 "BadTerm" CB (spIP K)) : FnOk P w K mg base (L2.CX P w) 3 f fd ["self", "kind"] (spRTake K C CB) := by
  refine F.okX sc_Reader_take (fun vs H Q E h => ?_) (fun cdv A outer s H vs Q E hr h => ?_)
  · obtain ⟨_, _, _, _, _, _, _, _, _, rfl, _⟩ := h
    rfl
  obtain ⟨p, dS, L, x, sig, tk, i, k, qq, rfl, r, e, q1, q2⟩ := h
  refine ⟨_, (pss_cons (ps_asg (pe_ix ix_list (pe_fld (pv 0) rfl) (pe_fld (pv 0) rfl) (fun _ _ => rfl)) (pg_tup (by rfl) (pgs_cons (pg_name (i := 2) sc_Reader_take.nd rfl (Or.inl rfl)) (pgs_cons (pg_name (i := 3) sc_Reader_take.nd rfl (Or.inl rfl)) (pgs_cons (pg_name (i := 4) sc_Reader_take.nd rfl (Or.inl rfl)) pgs_nil)))))
    (pss_cons (ps_if (pt_cmpR op_ne (pv 2) (pv 1) (nomark _)) (pss_one (ps_raise rfl (takes_of rfl rfl rfl rfl) <| pmk_y XB hr (by omega) rfl (pa_cons (pv 4) pa_nil))) pss_nil)
    (pss_cons (ps_fldaug (pv 0) pe_int in_add)
    (pss_one (ps_ret (pv 3)))))), ?_⟩
  refine vHere X rfl r e fun t w st dw => ?_
  refine ⟨t, _, rfl, st, rfl, _, _, rfl, _, _, rfl, _, _, rfl, rfl, ?_⟩
  refine ⟨_, rfl, _, rfl, rfl, _, rfl, ?_⟩
  by_cases hk : k.kind = x
  · rw [decide_eq_true (show V.str k.kind = V.str x by rw [hk])]
    obtain ⟨dx, hp⟩ := r.at_
    refine iteF ⟨_, rfl, p, C, dx, _, _, rfl, hp, X.cl, X.nA, rfl, _, _, rfl, rfl, dx, _, hp, (by show 3 < 1000; decide), _, rfl, ?_⟩
    have kp : Keep p H (upd H p (.ins C dx (rdF dS L (i + 1)))) := fun b o hb h => by rw [upd_ne hb]; exact h
    exact q1 hk _ _ kp (r.keep kp ⟨dx, upd_same⟩) (dw.keep kp hp)
  · rw [decide_eq_false (show ¬ V.str k.kind = V.str x from fun z => hk (V.str.inj z))]
    exact iteT ⟨_, rfl, madeP (σ := []) XB.no fun d H' sm hd => q2 hk d H' (Keep.ofSame sm) hd⟩
end
end PK
namespace PK
open PySem L2 _root_.TL
/-- what comes of reading -/
def outR (K : PySem.W.Frag) (C CB CD p dS L : Addr) (sig : List (Str × Nat)) (tk : List (Tk × Nat)) (H : Hp) (Q : VK) (E : XK) : Except PErr (Rm × Nat) → Prop
  | .ok (t, j) => ∀ v H', Keep p H H' → RdA K H' p C dS L sig tk j → Dt K H' v t.d → Q v H'
  | .error (b, q) => ∀ d H', Keep p H H' → H' d = some (.xd [("position", .int (q : Nat))]) → E (.ref (if b then CD else CB)) (some d) H'
theorem outR.keep {K : PySem.W.Frag} {C CB CD p dS L : Addr} {sig : List (Str × Nat)} {tk : List (Tk × Nat)} {H H1 : Hp} {Q : VK} {E : XK} {r : Except PErr (Rm × Nat)} (h : outR K C CB CD p dS L sig tk H Q E r) (k : Keep p H H1) : outR K C CB CD p dS L sig tk H1 Q E r := by
  unfold outR at h ⊢
  split at h
  · exact fun v H' k' => h v H' (k.trans k')
  · exact fun d H' k' => h d H' (k.trans k')
def rdTerm (K : PySem.W.Frag) (C CB CD : Addr) (f : Nat) : Sp := fun vs H Q E => ∃ (p dS L : Addr) (sig : List (Str × Nat)) (tk : List (Tk × Nat)) (i d : Nat), vs = [.ref p, .int (d : Nat)] ∧ RdA K H p C dS L sig tk i ∧ i < tk.length ∧ TkOk sig tk ∧ d ≤ 60 ∧ 61 ≤ f + d ∧
  outR K C CB CD p dS L sig tk H Q E (pTerm sig tk f d i)
def spNode (K : PySem.W.Frag) (C CB CD : Addr) (f : Nat) : Sp := fun vs H Q E => ∃ (p dS L : Addr) (sig : List (Str × Nat)) (tk : List (Tk × Nat)) (i d q : Nat), vs = [.ref p, .int (d : Nat)] ∧ RdA K H p C dS L sig tk i ∧ tk[i]? = some (.sg "(", q) ∧ TkOk sig tk ∧ d ≤ 60 ∧ 60 ≤ f + d ∧
  outR K C CB CD p dS L sig tk H Q E (pNode sig tk (pTerm sig tk f (d + 1)) d i q)
def spMap (K : PySem.W.Frag) (C CB CD : Addr) (f : Nat) : Sp := fun vs H Q E => ∃ (p dS L : Addr) (sig : List (Str × Nat)) (tk : List (Tk × Nat)) (i d q : Nat), vs = [.ref p, .int (d : Nat)] ∧ RdA K H p C dS L sig tk i ∧ tk[i]? = some (.sg "{", q) ∧ TkOk sig tk ∧ d ≤ 60 ∧ 60 ≤ f + d ∧
  outR K C CB CD p dS L sig tk H Q E (pMap tk (pTerm sig tk f (d + 1)) d i q)
section
variable {P : Program} {w : World} {K : PySem.W.Frag} {mg : Str → Option Value} {base : Heap} {aS C CB CD : Addr}
abbrev s_Reader_term : Stmt := (C8.clsBody (topS 35)).getD 2 (.Pass ⟨0, 0, 0, 0⟩)
theorem sc_Reader_term : FnScope ["self", "depth", "kind", "worth", "position"] ["self", "depth"] (defScope s_Reader_term) := ⟨rfl, rfl, rfl, by decide +kernel, rfl, by decide +kernel, by decide +kernel⟩
-- slots: 0:self 1:depth 2:kind 3:worth 4:position
theorem ok_rterm {n : Nat} {f : Addr} {fd : FuncData} (F : Fun K "term" "Reader.term" s_Reader_term f fd) (T : TxtP K mg aS) (X : RTx K C) (XB : CalY P w K mg base 1 "BadTerm" CB (spIP K))
    (M_take : CalM P w K mg base 3 C "take" (spRTake K C CB)) (M_node : CalM P w K mg base (2 * n + 5) C "node" (spNode K C CB CD n)) (M_mapping : CalM P w K mg base (2 * n + 5) C "mapping" (spMap K C CB CD n)) :
    FnOk P w K mg base (L2.CX P w) (2 * n + 6) f fd ["self", "depth"] (rdTerm K C CB CD (n + 1)) := by
  refine F.okX sc_Reader_term (fun vs H Q E h => ?_) (fun cdv A outer s H vs Q E hr h => ?_)
  · obtain ⟨_, _, _, _, _, _, _, rfl, _⟩ := h
    rfl
  obtain ⟨p, dS, L, sig, tk, i, d, rfl, r, hi, ok, hd, hf, q⟩ := h
  refine ⟨_, (pss_cons (ps_asg (pe_ix ix_list (pe_fld (pv 0) rfl) (pe_fld (pv 0) rfl) (fun _ _ => rfl)) (pg_tup (by rfl) (pgs_cons (pg_name (i := 2) sc_Reader_term.nd rfl (Or.inl rfl)) (pgs_cons (pg_name (i := 3) sc_Reader_term.nd rfl (Or.inl rfl)) (pgs_cons (pg_name (i := 4) sc_Reader_term.nd rfl (Or.inl rfl)) pgs_nil)))))
    (pss_cons (ps_if (pt_cmpR op_in_seq (pv 2) (pe_tup (pa_cons pe_str (pa_cons pe_str (pa_cons pe_str (pa_cons pe_str pa_nil))))) rfl) (pss_one (ps_ret (pe_tup (pa_cons (pv 2) (pa_cons (pe_mr M_take (takes_of rfl rfl rfl rfl) hr (by omega) (pv 0) (pa_cons (pv 2) pa_nil)) pa_nil))))) pss_nil)
    (pss_cons (ps_if (PW.pt (pw_and (pt_cmpR op_eq (pv 2) pe_str (nomark _)) (pw_and1 (pt_cmpR op_eq (pe_dget1 (hu_of hr) (pe_fld (pv 0) rfl) (pv 3) ⟨by rfl, by rfl, by rfl, by rfl⟩) pe_int (nomark _))))) (pss_one (ps_ret (pe_tup (pa_cons pe_str (pa_cons (pe_mr M_take (takes_of rfl rfl rfl rfl) hr (by omega) (pv 0) (pa_cons (pv 2) pa_nil)) (pa_cons (pe_tup pa_nil) pa_nil)))))) pss_nil)
    (pss_cons (ps_if (pt_cmpR op_eq (pv 2) pe_str (nomark _)) (pss_one (ps_ret (pe_mr M_mapping (takes_of rfl rfl rfl rfl) hr (by omega) (pv 0) (pa_cons (pv 1) pa_nil)))) pss_nil)
    (pss_cons (ps_if (PW.pt (pw_and (pt_cmpR op_eq (pv 2) pe_str (nomark _)) (pw_and1 (pt_truth (pe_fld (pv 0) rfl) (by intro _; rfl))))) (pss_one (ps_ret (pe_mr M_node (takes_of rfl rfl rfl rfl) hr (by omega) (pv 0) (pa_cons (pv 1) pa_nil)))) pss_nil)
    (pss_one (ps_raise rfl (takes_of rfl rfl rfl rfl) <| pmk_y XB hr (by omega) rfl (pa_cons (pv 4) pa_nil)))))))), ?_⟩
  obtain ⟨⟨k, qq⟩, e⟩ : ∃ x, tk[i]? = some x := ⟨_, List.getElem?_eq_getElem hi⟩
  refine vHere X rfl r e fun t w st dw => ?_
  refine ⟨t, _, rfl, st, rfl, _, _, rfl, _, _, rfl, _, _, rfl, rfl, ?_⟩
  refine ⟨_, rfl, small (by show 4 ≤ _; decide), fun t4 h4 => ⟨t4, _, rfl, .inr (SqT.of upd_same), rfl, flat_strs ["int", "name", "addr", "meta"], _, rfl, ?_⟩⟩
  have sm := same_new (H := H) (o := .tup [V.str "int", .str "name", .str "addr", .str "meta"]) h4
  have r1 := r.same sm
  have q1 := q.keep (Keep.ofSame sm)
  have dw1 := dw.same sm
  generalize upd H t4 (.tup [V.str "int", .str "name", .str "addr", .str "meta"]) = H1 at *
  obtain ⟨dx, hp⟩ := r1.at_
  rw [show inV (V.str k.kind) [V.str "int", .str "name", .str "addr", .str "meta"] = decide (k.kind ∈ (["int", "name", "addr", "meta"] : List Str)) from inV_str k.kind ["int", "name", "addr", "meta"]]
  -- what is read at once
  have leaf : ∀ (t : Rm), t.d = .tuple [.str k.kind, k.worth] → pTerm sig tk (n + 1) d i = .ok (t, i + 1) → k.kind ∈ (["int", "name", "addr", "meta"] : List Str) → ∀ {D : Ends}, D.rt = Q → ∀ {A : Prop}, if decide (k.kind ∈ (["int", "name", "addr", "meta"] : List Str)) = true then
      tRet (tTup (tCons (tVar 2) (tCons (tMeth C "take" (spRTake K C CB) [] E (tVar 0) (tCons (tVar 2) tNil)) tNil))) D [some (.ref p), some (.int (d : Nat)), some (.str k.kind), some w, some (.int (qq : Nat))] H1 else A := fun t et ep hk D hD A => by
    rw [decide_eq_true hk]
    rw [ep] at q1
    refine iteT ⟨_, rfl, _, rfl, p, dx, _, rfl, hp, rfl, _, rfl, p, dS, L, k.kind, sig, tk, i, k, qq, rfl, r1, e, fun _ v H' kp r' dv => ⟨small (by show 2 ≤ _; decide), fun a ha => ?_⟩, fun z => absurd rfl z⟩
    rw [hD]
    exact q1 _ _ (kp.trans (Keep.ofSame (same_new ha))) (r'.same (same_new ha)) (by rw [et]; exact Dt.mk2 ha (.str _) dv)
  cases k with
  | int m => exact leaf (.int m) (by unfold Rm.d; rfl) (by unfold pTerm; rw [e]) (by show ("int" : Str) ∈ _; decide +kernel) rfl
  | name m => exact leaf (.name m) (by unfold Rm.d; rfl) (by unfold pTerm; rw [e]) (by show ("name" : Str) ∈ _; decide +kernel) rfl
  | addr m => exact leaf (.addr m) (by unfold Rm.d; rfl) (by unfold pTerm; rw [e]) (by show ("addr" : Str) ∈ _; decide +kernel) rfl
  | var m => exact leaf (.var m) (by unfold Rm.d; rfl) (by unfold pTerm; rw [e]) (by show ("meta" : Str) ∈ _; decide +kernel) rfl
  | word m =>
    cases dw1
    rw [show decide ((Tk.word m).kind ∈ (["int", "name", "addr", "meta"] : List Str)) = false from decide_eq_false (show ("word" : Str) ∉ _ by decide +kernel)]
    refine iteF ⟨_, rfl, rfl, _, rfl, sT rfl ?_⟩
    refine ⟨_, rfl, p, C, dx, _, _, rfl, hp, X.cl, X.nS, rfl, dS, rfl, .inl ⟨_, .of r1.sg⟩, _, rfl, _, DGet.k (k := Sum.inr m) r1.sg, ?_⟩
    rw [valV_sig]
    by_cases h0 : sig.lookup m = some 0
    · rw [h0]
      have ep : pTerm sig tk (n + 1) d i = .ok (.node m [], i + 1) := by unfold pTerm; rw [e]; exact if_pos h0
      rw [ep] at q1
      refine ⟨rfl, _, rfl, ?_⟩
      rw [decide_eq_true (show ((some 0).map fun n : Nat => V.int (n : Nat)).getD .non = V.int 0 from rfl)]
      refine iteT ⟨_, rfl, p, dx, _, rfl, hp, rfl, _, rfl, p, dS, L, _, sig, tk, i, _, qq, rfl, r1, e, fun _ v H' kp r' dv => ⟨small (by show 0 ≤ _; decide), fun a ha => ⟨small (by show 3 ≤ _; decide), fun b hb => ?_⟩⟩, fun z => absurd rfl z⟩
      exact q1 _ _ ((kp.trans (Keep.ofSame (same_new ha))).trans (Keep.ofSame (same_new hb))) ((r'.same (same_new ha)).same (same_new hb)) (by unfold Rm.d; unfold Rm.ds; exact Dt.mk3 hb (.str _) (dv.new ha) (.tup (SqT.of upd_same) .nil))
    · have ep : pTerm sig tk (n + 1) d i = .error (false, qq) := by unfold pTerm; rw [e]; exact if_neg h0
      rw [ep] at q1
      have sc : scal (((sig.lookup m).map fun n : Nat => V.int (n : Nat)).getD .non) (V.int 0) = true := by cases sig.lookup m <;> rfl
      have ne : ¬ (((sig.lookup m).map fun n : Nat => V.int (n : Nat)).getD .non = V.int 0) := fun z => h0 (by
        cases hl : sig.lookup m with
        | none => rw [hl] at z; cases z
        | some x =>
          rw [hl] at z
          have : (x : Int) = 0 := V.int.inj z
          rw [show x = 0 by omega])
      refine ⟨sc, _, rfl, ?_⟩
      rw [decide_eq_false ne]
      refine iteF ⟨_, rfl, rfl, _, rfl, sF (by show ("word" : Str) ≠ _; decide +kernel) ⟨_, rfl, rfl, _, rfl, sF (by show ("word" : Str) ≠ _; decide +kernel) ⟨_, rfl, madeP (σ := []) XB.no fun d' H' sm' hd' => q1 d' H' (Keep.ofSame sm') hd'⟩⟩⟩
  | sg x =>
    cases dw1
    have hx := ok.signs x qq (List.mem_of_getElem? e)
    have hx4 : x = "(" ∨ x = ")" ∨ x = "{" ∨ x = "}" := by simpa [SIGNS] using hx
    have nk : ∀ y ∈ SIGNS, y ∉ (["int", "name", "addr", "meta"] : List Str) ∧ y ≠ "word" := by decide +kernel
    rw [show decide ((Tk.sg x).kind ∈ (["int", "name", "addr", "meta"] : List Str)) = false from decide_eq_false (nk x hx).1]
    refine iteF ⟨_, rfl, rfl, _, rfl, sF (nk x hx).2 ?_⟩
    have ep : pTerm sig tk (n + 1) d i = (if x = "{" then pMap tk (pTerm sig tk n (d + 1)) d i qq else if x = "(" then if sig = [] then .error (false, qq) else pNode sig tk (pTerm sig tk n (d + 1)) d i qq else .error (false, qq)) := by
      unfold pTerm; rw [e]
    rw [ep] at q1
    by_cases h1 : x = "{"
    · subst h1
      rw [if_pos rfl] at q1
      exact ⟨_, rfl, rfl, _, rfl, sT rfl ⟨_, rfl, p, dx, _, rfl, hp, rfl, _, rfl, p, dS, L, sig, tk, i, d, qq, rfl, r1, e, ok, hd, by omega, q1⟩⟩
    rw [if_neg h1] at q1
    by_cases h2 : x = "("
    · subst h2
      rw [if_pos rfl] at q1
      refine ⟨_, rfl, rfl, _, rfl, sF (by show ("(" : Str) ≠ _; decide +kernel) ⟨_, rfl, rfl, _, rfl, sT rfl ?_⟩⟩
      refine ⟨_, rfl, p, C, dx, _, _, rfl, hp, X.cl, X.nS, rfl, _, .inr (.inr ⟨_, r1.sg, rfl⟩), ?_⟩
      cases sig with
      | nil => exact iteF ⟨_, rfl, madeP (σ := []) XB.no fun d' H' sm' hd' => q1 d' H' (Keep.ofSame sm') hd'⟩
      | cons s0 sr =>
        rw [if_neg (by simp)] at q1
        exact iteT ⟨_, rfl, p, dx, _, rfl, hp, rfl, _, rfl, p, dS, L, _, tk, i, d, qq, rfl, r1, e, ok, hd, by omega, q1⟩
    rw [if_neg h2] at q1
    exact ⟨_, rfl, rfl, _, rfl, sF h1 ⟨_, rfl, rfl, _, rfl, sF h2 ⟨_, rfl, madeP (σ := []) XB.no fun d' H' sm' hd' => q1 d' H' (Keep.ofSame sm') hd'⟩⟩⟩
  | bad =>
    have ep : pTerm sig tk (n + 1) d i = .error (false, qq) := by unfold pTerm; rw [e]
    rw [ep] at q1
    rw [show decide (Tk.bad.kind ∈ (["int", "name", "addr", "meta"] : List Str)) = false by decide +kernel]
    exact iteF ⟨_, rfl, rfl, _, rfl, sF (by decide +kernel) ⟨_, rfl, rfl, _, rfl, sF (by decide +kernel) ⟨_, rfl, rfl, _, rfl, sF (by decide +kernel) ⟨_, rfl, madeP (σ := []) XB.no fun d' H' sm' hd' => q1 d' H' (Keep.ofSame sm') hd'⟩⟩⟩⟩
  | fin =>
    have ep : pTerm sig tk (n + 1) d i = .error (false, qq) := by unfold pTerm; rw [e]
    rw [ep] at q1
    rw [show decide (Tk.fin.kind ∈ (["int", "name", "addr", "meta"] : List Str)) = false by decide +kernel]
    exact iteF ⟨_, rfl, rfl, _, rfl, sF (by decide +kernel) ⟨_, rfl, rfl, _, rfl, sF (by decide +kernel) ⟨_, rfl, rfl, _, rfl, sF (by decide +kernel) ⟨_, rfl, madeP (σ := []) XB.no fun d' H' sm' hd' => q1 d' H' (Keep.ofSame sm') hd'⟩⟩⟩⟩
end
end PK
namespace PK
open PySem L2 _root_.TL
theorem many_zero (r : Nat → Except PErr (Rm × Nat)) (i : Nat) : pMany r 0 i = .ok ([], i) := rfl
theorem many_succ (r : Nat → Except PErr (Rm × Nat)) (n i : Nat) : pMany r (n + 1) i = match r i with
    | .error e => .error e
    | .ok (t, j) => match pMany r n j with
      | .error e => .error e
      | .ok (ts, k) => .ok (t :: ts, k) := rfl
theorem keep_free {p R : Addr} {H H' : Hp} {o : HO} (k : Keep p H H') (hp : H' p = some o) (h : H' R = none) : H R = none := by
  cases e : H R with
  | none => rfl
  | some u =>
    by_cases z : R = p
    · rw [z, hp] at h; cases h
    · rw [k R u z e] at h; cases h
theorem mem_lookup {sig : List (Str × Nat)} {c : Str} {m : Nat} : sig.lookup c = some m → (c, m) ∈ sig := by
  induction sig with
  | nil => intro h; cases h
  | cons e r ih =>
    intro h
    by_cases hc : (c == e.1) = true
    · simp only [List.lookup, hc] at h
      cases h
      rw [show (c, e.2) = e from Prod.ext (beq_iff_eq.mp hc) rfl]
      exact .head _
    · rw [Bool.not_eq_true] at hc
      simp only [List.lookup, hc] at h
      exact .tail _ (ih h)
section
variable {P : Program} {w : World} {K : PySem.W.Frag} {mg : Str → Option Value} {base : Heap} {aS C CB CD : Addr}
abbrev s_Reader_node : Stmt := (C8.clsBody (topS 35)).getD 3 (.Pass ⟨0, 0, 0, 0⟩)
theorem sc_Reader_node : FnScope ["self", "depth", "position", "kind", "constructor", "place", "parts", "_"] ["self", "depth"] (defScope s_Reader_node) := ⟨rfl, rfl, rfl, by decide +kernel, rfl, by decide +kernel, by decide +kernel⟩
-- slots: 0:self 1:depth 2:position 3:kind 4:constructor 5:place 6:parts 7:_
theorem ok_rnode {n : Nat} {f : Addr} {fd : FuncData} (F : Fun K "node" "Reader.node" s_Reader_node f fd) (T : TxtP K mg aS) (X : RTx K C) (XB : CalY P w K mg base 1 "BadTerm" CB (spIP K)) (XD : CalY P w K mg base 1 "TooDeep" CD (spIP K))
    (M_take : CalM P w K mg base 3 C "take" (spRTake K C CB)) (M_term : CalM P w K mg base (2 * n + 4) C "term" (rdTerm K C CB CD n)) :
    FnOk P w K mg base (L2.CX P w) (2 * n + 5) f fd ["self", "depth"] (spNode K C CB CD n) := by
  refine F.okX sc_Reader_node (fun vs H Q E h => ?_) (fun cdv A outer s H vs Q E hr h => ?_)
  · obtain ⟨_, _, _, _, _, _, _, _, rfl, _⟩ := h
    rfl
  obtain ⟨p, dS, L, sig, tk, i, d, qq, rfl, r, e, ok, hd, hf, q⟩ := h
  refine ⟨_, (pss_cons (ps_set (i := 2) sc_Reader_node.nd rfl (Or.inl rfl) (pe_ix ix_tup (pe_ix ix_list (pe_fld (pv 0) rfl) (pe_fld (pv 0) rfl) (fun _ _ => rfl)) pe_int (fun _ _ => rfl)))
    (pss_cons (ps_expr (pe_mr M_take (takes_of rfl rfl rfl rfl) hr (by omega) (pv 0) (pa_cons pe_str pa_nil)))
    (pss_cons (ps_asg (pe_ix ix_list (pe_fld (pv 0) rfl) (pe_fld (pv 0) rfl) (fun _ _ => rfl)) (pg_tup (by rfl) (pgs_cons (pg_name (i := 3) sc_Reader_node.nd rfl (Or.inl rfl)) (pgs_cons (pg_name (i := 4) sc_Reader_node.nd rfl (Or.inl rfl)) (pgs_cons (pg_name (i := 5) sc_Reader_node.nd rfl (Or.inl rfl)) pgs_nil)))))
    (pss_cons (ps_if (PW.pt (pw_or (pt_cmpR op_ne (pv 3) pe_str (nomark _)) (pw_or1 (pt_cmp (pc_dnotin (hu_of hr) (pv 4) (pe_fld (pv 0) rfl)))))) (pss_one (ps_raise rfl (takes_of rfl rfl rfl rfl) <| pmk_y XB hr (by omega) rfl (pa_cons (pv 5) pa_nil))) pss_nil)
    (pss_cons (ps_if (pt_cmpR op_ge (pv 1) (pe_glI (n := 60) rfl T.g_MO) (nomark _)) (pss_one (ps_raise rfl (takes_of rfl rfl rfl rfl) <| pmk_y XD hr (by omega) rfl (pa_cons (pv 2) pa_nil))) pss_nil)
    (pss_cons (ps_expr (pe_mr M_take (takes_of rfl rfl rfl rfl) hr (by omega) (pv 0) (pa_cons pe_str pa_nil)))
    (pss_cons (ps_set (i := 6) sc_Reader_node.nd rfl (Or.inl rfl) (pe_lst pa_nil))
    (pss_cons (ps_for (passes_of rfl) rfl (pi_range1 (by rfl) T.z_range (pa_cons (pe_dget (hu_of hr) (pe_fld (pv 0) rfl) (pv 4) (fun _ _ => rfl)) pa_nil)) (pg_name (i := 7) sc_Reader_node.nd rfl (Or.inl rfl)) (pss_one (ps_expr (pe_bm PySem.F.plainAttrs_list PySem.F.slot_list_append PySem.F.type_list_append mt_append (pv 6) (pa_cons (pe_mr M_term (takes_of rfl rfl rfl rfl) hr (by omega) (pv 0) (pa_cons (pe_op op_add (pv 1) pe_int) pa_nil)) pa_nil)))))
    (pss_cons (ps_expr (pe_mr M_take (takes_of rfl rfl rfl rfl) hr (by omega) (pv 0) (pa_cons pe_str pa_nil)))
    (pss_one (ps_ret (pe_tup (pa_cons pe_str (pa_cons (pv 4) (pa_cons (pe_callTy call_tuple_of (by rfl) T.z_tuple (by decide +kernel) (pa_cons (pv 6) pa_nil)) pa_nil))))))))))))))), ?_⟩
  obtain ⟨dx, hp⟩ := id r.at_
  refine vHere X rfl r e fun t w st dw => ?_
  refine ⟨t, _, _, _, rfl, rfl, st, rfl, ?_⟩
  refine ⟨_, rfl, p, dx, _, rfl, hp, rfl, p, dS, L, _, sig, tk, i, _, qq, rfl, r, e, fun _ v H1 k1 r1 _ => ?_, fun z => absurd rfl z⟩
  have q1 := q.keep k1
  have h1 := ok.ended.lt e (by intro z; cases z)
  obtain ⟨⟨k, q2⟩, e2⟩ : ∃ x, tk[i + 1]? = some x := ⟨_, List.getElem?_eq_getElem h1⟩
  refine vHere X rfl r1 e2 fun t2 w2 st2 dw2 => ?_
  refine ⟨t2, _, rfl, st2, rfl, _, _, rfl, _, _, rfl, _, _, rfl, rfl, ?_⟩
  obtain ⟨dx1, hp1⟩ := id r1.at_
  refine ⟨_, rfl, rfl, _, rfl, ?_⟩
  by_cases hk : k.kind = "word"
  · rw [decide_eq_true (show V.str k.kind = V.str "word" by rw [hk])]
    refine iteF ?_
    have : ∃ c, k = .word c := by
      cases k with
      | word c => exact ⟨c, rfl⟩
      | sg x =>
        have nk : ∀ y ∈ SIGNS, y ≠ "word" := by decide +kernel
        exact absurd hk (nk x (ok.signs x q2 (List.mem_of_getElem? e2)))
      | int _ => exact absurd hk (by show ("int" : Str) ≠ _; decide +kernel)
      | name _ => exact absurd hk (by show ("name" : Str) ≠ _; decide +kernel)
      | addr _ => exact absurd hk (by show ("addr" : Str) ≠ _; decide +kernel)
      | var _ => exact absurd hk (by show ("meta" : Str) ≠ _; decide +kernel)
      | bad => exact absurd hk (by decide +kernel)
      | fin => exact absurd hk (by decide +kernel)
    obtain ⟨c, rfl⟩ := this
    cases dw2
    refine ⟨_, rfl, _, rfl, p, C, dx1, _, _, rfl, hp1, X.cl, X.nS, rfl, dS, _, rfl, DGet.k (k := Sum.inr c) r1.sg, _, rfl, ?_⟩
    rw [valV_sig]
    unfold pNode at q1
    rw [e2] at q1
    dsimp only at q1
    cases hl : sig.lookup c with
    | none =>
      rw [hl] at q1
      exact iteT ⟨_, rfl, madeP (σ := []) XB.no fun d' H' sm' hd' => q1 d' H' (Keep.ofSame sm') hd'⟩
    | some m =>
      rw [hl] at q1
      dsimp only at q1
      refine iteF ⟨_, rfl, _, _, rfl, rfl, _, rfl, ?_⟩
      by_cases h60 : 60 ≤ d
      · rw [if_pos h60] at q1
        rw [decide_eq_true (show (60 : Int) ≤ (d : Int) by omega)]
        exact iteT ⟨_, rfl, madeP (σ := []) XD.no fun d' H' sm' hd' => q1 d' H' (Keep.ofSame sm') hd'⟩
      rw [if_neg h60] at q1
      rw [decide_eq_false (show ¬ (60 : Int) ≤ (d : Int) by omega)]
      refine iteF ⟨_, rfl, p, dx1, _, rfl, hp1, rfl, p, dS, L, _, sig, tk, i + 1, _, q2, rfl, r1, e2, fun _ v2 H2 k2 r2 _ => ?_, fun z => absurd rfl z⟩
      have h2 := ok.ended.lt e2 (by intro z; cases z)
      have hm : m ≤ 1000 := ok.low _ (mem_lookup hl)
      refine ⟨Nat.zero_le _, fun R hR => ?_⟩
      obtain ⟨dx2, hp2⟩ := id r2.at_
      have nR : p ≠ R := ne_of_none hp2 hR
      have hR1 : H1 R = none := keep_free k2 hp2 hR
      have k3 : Keep p H1 (upd H2 R (.lst [])) := k2.trans (Keep.ofSame (same_new hR))
      have r3 := r2.same (same_new (o := .lst []) hR)
      refine ⟨_, rfl, p, C, dx2, _, _, rfl, by rw [upd_ne nR]; exact hp2, X.cl, X.nS, rfl, _, rfl, dS, .int (m : Nat), rfl, ?_, ?_⟩
      · have := DGet.k (k := Sum.inr c) r3.sg
        rw [valV_sig, hl] at this
        exact this
      refine ⟨(m : Int), rfl, by omega, by omega, for_range (n := m) (fun a σ H' => ∃ (ws : List V) (ts : List Rm) (j : Nat) (b : Option V), σ = [some (.ref p), some (.int (d : Nat)), some (.int (qq : Nat)), some (.str (Tk.word c).kind), some (.str c), some (.int (q2 : Nat)), some (.ref R), b] ∧
        Keep p H1 H' ∧ H' R = some (.lst ws) ∧ DtAll K H' ws (Rm.ds ts) ∧ ts.length = a ∧ RdA K H' p C dS L sig tk j ∧ j < tk.length ∧
        pMany (pTerm sig tk n (d + 1)) m (i + 2) = match pMany (pTerm sig tk n (d + 1)) (m - a) j with
          | .error x => .error x
          | .ok (us, l) => .ok (ts ++ us, l)) ?_ ?_ ?_⟩
      · refine ⟨[], [], i + 2, none, rfl, k3, upd_same, by unfold Rm.ds; exact .nil, rfl, r3, h2, ?_⟩
        rw [Nat.sub_zero]
        cases pMany (pTerm sig tk n (d + 1)) m (i + 2) <;> rfl
      · rintro a σ H' ha ⟨ws, ts, j, b, rfl, kp, hw, da, lt, rj, hj, em⟩
        obtain ⟨dxj, hpj⟩ := id rj.at_
        obtain ⟨a', ea⟩ : ∃ a', m - a = a' + 1 := ⟨m - a - 1, by omega⟩
        rw [ea, many_succ] at em
        have lw := da.length
        have ld : (Rm.ds ts).length = ts.length := by rw [Rm.ds_map, List.length_map]
        refine ⟨_, rfl, .inl ⟨rfl, _, SqL.of hw⟩, ⟨_, rfl, p, dxj, _, rfl, hpj, rfl, _, rfl, _, _, rfl, rfl, p, dS, L, sig, tk, j, d + 1, rfl, rj, hj, ok, by omega, by omega, ?_⟩⟩
        cases ht : pTerm sig tk n (d + 1) j with
        | error x =>
          rw [ht] at em
          rw [em] at q1
          exact q1.keep kp
        | ok x =>
          obtain ⟨tm, l⟩ := x
          rw [ht] at em
          dsimp only at em
          intro v' H'' k' r' dv
          have hpj'' := hpj
          have hw'' := k' _ _ (ne_of hw hpj (fun z => by cases z)) hw
          obtain ⟨dxl, hpl⟩ := id r'.at_
          refine ⟨R, _, _, rfl, rfl, hw'', smallL (by omega), ws ++ [v'], ts ++ [tm], l, _, rfl, ?_, upd_same, ?_, by rw [List.length_append, lt]; rfl, ?_, (term_lt ok.ended _ _ _ _ _ hj ht).2, ?_⟩
          · intro b' o hb' ho
            rw [upd_ne (ne_of_none ho hR1)]
            exact (kp.trans k') b' o hb' ho
          · rw [Rm.ds_map, List.map_append, ← Rm.ds_map]
            exact DtAll.mono (fun _ _ z => seqT_upd z hw'') _ _ (DtAll.append (da.keep k' hpj) (.cons dv .nil))
          · obtain ⟨ws', hL, dL⟩ := r'.tl
            have nLR : L ≠ R := fun z => by
              subst z
              obtain ⟨ws0, hL0, _⟩ := r1.tl
              rw [hL0] at hR1; cases hR1
            exact ⟨⟨dxl, by rw [upd_ne nR]; exact hpl⟩, by rw [upd_ne (ne_of r'.sg hw'' (fun z => by cases z))]; exact r'.sg, ws', by rw [upd_ne nLR]; exact hL, DtAll.mono (fun _ _ z => seqT_upd z hw'') _ _ dL⟩
          · rw [em, show m - (a + 1) = a' by omega]
            cases pMany (pTerm sig tk n (d + 1)) a' l with
            | error x => rfl
            | ok x =>
              obtain ⟨us, l2⟩ := x
              dsimp only
              rw [List.append_assoc]; rfl
      · rintro σ H' ⟨ws, ts, j, b, rfl, kp, hw, da, lt, rj, hj, em⟩
        rw [Nat.sub_self, many_zero] at em
        dsimp only at em
        rw [List.append_nil] at em
        rw [em] at q1
        dsimp only at q1
        obtain ⟨⟨k4, q4⟩, e4⟩ : ∃ x, tk[j]? = some x := ⟨_, List.getElem?_eq_getElem hj⟩
        obtain ⟨dxj, hpj⟩ := id rj.at_
        unfold pClose at q1
        rw [e4] at q1
        dsimp only at q1
        refine ⟨_, rfl, p, dxj, _, rfl, hpj, rfl, p, dS, L, _, sig, tk, j, k4, q4, rfl, rj, e4, fun hk4 v4 H4 kk4 r4 _ => ?_, fun hk4 => ?_⟩
        · rw [if_pos hk4] at q1
          have hw4 := kk4 _ _ (ne_of hw hpj (fun z => by cases z)) hw
          refine ⟨_, rfl, _, rfl, R, _, rfl, .inl ⟨SqL.of hw4, fun t5 h5 => ⟨small (by show 3 ≤ _; decide), fun t6 h6 => ?_⟩⟩⟩
          have s5 := same_new (H := H4) (o := .tup ws) h5
          refine q1 _ _ (((kp.trans kk4).trans (Keep.ofSame s5)).trans (Keep.ofSame (same_new h6))) ((r4.same s5).same (same_new h6)) ?_
          unfold Rm.d
          exact Dt.mk3 h6 (.str _) (.str c) (.tup (SqT.of upd_same) ((da.keep kk4 hpj).same s5))
        · rw [if_neg hk4] at q1
          intro d' H'' k' hd'
          exact q1 d' H'' (kp.trans k') hd'
  · rw [decide_eq_false (show ¬ V.str k.kind = V.str "word" from fun z => hk (V.str.inj z))]
    unfold pNode at q1
    rw [e2] at q1
    have q3 : outR K C CB CD p dS L sig tk H1 Q E (.error (false, q2)) := by
      cases k with
      | word c => exact absurd rfl hk
      | _ => exact q1
    exact iteT (iteT ⟨_, rfl, madeP (σ := []) XB.no fun d' H' sm' hd' => q3 d' H' (Keep.ofSame sm') hd'⟩)
end
end PK
namespace PK
open PySem L2 _root_.TL PyProof.Rows
/-! the order of names -/
abbrev SLe (a b : Str) : Prop := a.cps.toList ≤ b.cps.toList
theorem sle_trans {a b c : Str} (h : SLe a b) (g : SLe b c) : SLe a c := List.le_trans h g
theorem sle_total (a b : Str) : SLe a b ∨ SLe b a := List.le_total _ _
theorem sle_anti {a b : Str} (h : SLe a b) (g : SLe b a) : a = b := Str.ext' (Array.toList_inj.mp (List.le_antisymm h g))
theorem rising_pw : ∀ (l : List Str) (p : Str), risingS p l = true → (p :: l).Pairwise SLe
  | [], p, _ => by simp
  | x :: r, p, h => by
    unfold risingS at h
    rw [PyProof.Rows.ltCps_eq] at h
    obtain ⟨h1, h2⟩ := Bool.and_eq_true_iff.mp h
    have ih := rising_pw r x h2
    have px : SLe p x := fun z => by rw [decide_eq_true z] at h1; cases h1
    refine List.Pairwise.cons (fun y hy => ?_) ih
    rcases List.mem_cons.mp hy with e | e
    · rw [e]; exact px
    · exact sle_trans px ((List.pairwise_cons.mp ih).1 y e)
theorem sorted_pw {l : List Str} (h : sortedS l = true) : l.Pairwise SLe := by
  cases l with
  | nil => exact .nil
  | cons p r => exact rising_pw r p h
theorem ents_pw (es : List (Str × Rm)) : (ents es).Pairwise fun a b => SLe a.1 b.1 := by
  have := List.pairwise_mergeSort (le := fun a b : Str × Rm => decide (a.1.cps.toList ≤ b.1.cps.toList)) (fun a b c h g => decide_eq_true (sle_trans (of_decide_eq_true h) (of_decide_eq_true g)))
    (fun a b => by rcases sle_total a.1 b.1 with h | h <;> simp [h]) es
  exact this.imp fun h => of_decide_eq_true h
theorem ents_perm (es : List (Str × Rm)) : (ents es).Perm es := List.mergeSort_perm _ _
theorem key_inj {es : List (Str × Rm)} (nd : (es.map (·.1)).Nodup) {a b : Str × Rm} (ha : a ∈ es) (hb : b ∈ es) (h : a.1 = b.1) : a = b := by
  induction es with
  | nil => cases ha
  | cons e r ih =>
    rw [List.map_cons, List.nodup_cons] at nd
    rcases List.mem_cons.mp ha with ea | ea <;> rcases List.mem_cons.mp hb with eb | eb
    · rw [ea, eb]
    · exact absurd (by rw [← ea, h]; exact List.mem_map_of_mem eb) nd.1
    · exact absurd (by rw [← eb, ← h]; exact List.mem_map_of_mem ea) nd.1
    · exact ih nd.2 ea eb
theorem nodup_of_map {es : List (Str × Rm)} (h : (es.map (·.1)).Nodup) : es.Nodup := by
  rw [List.Nodup, List.pairwise_map] at h
  exact h.imp fun ne e => ne (by rw [e])
/-- the entries by the sorted names -/
theorem ents_of {es zs : List (Str × Rm)} (nd : (es.map (·.1)).Nodup) (hp : (zs.map (·.1)).Perm (es.map (·.1))) (hs : (zs.map (·.1)).Pairwise SLe) (hz : ∀ z ∈ zs, z ∈ es) : zs = ents es := by
  have ndz : (zs.map (·.1)).Nodup := hp.symm.nodup nd
  have ndz' : zs.Nodup := nodup_of_map ndz
  have nde' : es.Nodup := nodup_of_map nd
  have lz : zs.length = es.length := by have := hp.length_eq; rwa [List.length_map, List.length_map] at this
  have perm : zs.Perm es := by
    refine (List.perm_ext_iff_of_nodup ndz' nde').mpr fun a => ⟨hz a, fun ha => ?_⟩
    have : a.1 ∈ zs.map (·.1) := hp.symm.subset (List.mem_map_of_mem ha)
    obtain ⟨b, hb, e⟩ := List.mem_map.mp this
    rw [key_inj nd ha (hz b hb) e.symm]
    exact hb
  refine List.Perm.eq_of_pairwise (le := fun a b : Str × Rm => SLe a.1 b.1) (fun a b ha hb h g => ?_) (List.pairwise_map.mp hs) (ents_pw es) (perm.trans (ents_perm es).symm)
  exact key_inj nd (hz a ha) ((ents_perm es).subset hb) (sle_anti h g)
theorem valV_none {kvs : List (Key × V)} {ws : List Str} (e : kvs.map (·.1) = ws.map Sum.inr) {w : Str} : valV kvs (Sum.inr w) = none ↔ w ∉ ws := by
  have a := valV_any (Sum.inr w : Key) kvs
  constructor
  · intro h hw
    rw [h] at a
    have : (kvs.any fun kv => decide (kv.1 = Sum.inr w)) = true := by
      have m : (Sum.inr w : Key) ∈ kvs.map (·.1) := by rw [e]; exact List.mem_map_of_mem hw
      obtain ⟨x, hx, ex⟩ := List.mem_map.mp m
      exact List.any_eq_true.mpr ⟨x, hx, decide_eq_true ex⟩
    rw [this] at a; cases a
  · intro h
    cases v : valV kvs (Sum.inr w) with
    | none => rfl
    | some x =>
      rw [v] at a
      obtain ⟨y, hy, ey⟩ := List.any_eq_true.mp a
      have m : (Sum.inr w : Key) ∈ ws.map Sum.inr := by rw [← e, ← of_decide_eq_true ey]; exact List.mem_map_of_mem hy
      obtain ⟨z, hz, ez⟩ := List.mem_map.mp m
      exact absurd (Sum.inr.inj ez ▸ hz) h
/-- the value under a name -/
theorem valV_at {kvs : List (Key × V)} {es : List (Str × Rm)} {K : PySem.W.Frag} {H : Hp} : ∀ (kvs : List (Key × V)) (es : List (Str × Rm)), kvs.map (·.1) = (es.map (·.1)).map Sum.inr → DtAll K H (kvs.map (·.2)) (es.map (·.2.d)) → ∀ w ∈ es.map (·.1), ∃ v t, valV kvs (Sum.inr w) = some v ∧ (w, t) ∈ es ∧ Dt K H v t.d
  | [], [], _, _, w, hw => by cases hw
  | [], _ :: _, e, _, w, hw => by simp at e
  | _ :: _, [], e, _, w, hw => by simp at e
  | (k, v) :: kr, (x, t) :: er, e, da, w, hw => by
    simp only [List.map_cons, List.cons.injEq] at e
    obtain ⟨e1, e2⟩ := e
    subst e1
    rw [List.map_cons, List.map_cons] at da
    cases da with
    | cons d1 d2 =>
      by_cases h : x = w
      · subst h
        exact ⟨v, t, valV_hd, .head _, d1⟩
      · rcases List.mem_cons.mp hw with z | z
        · exact absurd z.symm h
        · obtain ⟨v', t', h1, h2, h3⟩ := valV_at (kvs := kvs) (es := es) kr er e2 d2 w z
          exact ⟨v', t', by rw [valV_tl (fun z => h (Sum.inr.inj z))]; exact h1, .tail _ h2, h3⟩
end PK
namespace PK
open PySem L2 _root_.TL PyProof.Rows
theorem ents_zero (r : Nat → Except PErr (Rm × Nat)) (tk : List (Tk × Nat)) (i : Nat) (acc : List (Str × Rm)) : pEnts r tk 0 i acc = .ok (acc, i) := rfl
theorem ents_name {r : Nat → Except PErr (Rm × Nat)} {tk : List (Tk × Nat)} {n i q : Nat} {acc : List (Str × Rm)} {x : Str} (e : tk[i]? = some (.name x, q)) (h : x ∉ acc.map (·.1)) : pEnts r tk (n + 1) i acc = match r (i + 1) with
      | .error e => .error e
      | .ok (t, j) => pEnts r tk n j (acc ++ [(x, t)]) := by
  show (match tk[i]? with | some (.name w, _) => _ | _ => _) = _
  rw [e]
  dsimp only
  rw [if_neg h]
  all_goals rfl
theorem ents_stop {r : Nat → Except PErr (Rm × Nat)} {tk : List (Tk × Nat)} {n i q : Nat} {acc : List (Str × Rm)} {k : Tk} (e : tk[i]? = some (k, q)) (h : ∀ x, k = .name x → x ∈ acc.map (·.1)) : pEnts r tk n i acc = .ok (acc, i) := by
  cases n with
  | zero => rfl
  | succ n =>
    show (match tk[i]? with | some (.name w, _) => _ | _ => _) = _
    rw [e]
    cases k with
    | name x => exact if_pos (h x rfl)
    | _ => rfl
section
variable {P : Program} {w : World} {K : PySem.W.Frag} {mg : Str → Option Value} {base : Heap} {aS C CB CD : Addr}
abbrev s_Reader_mapping : Stmt := (C8.clsBody (topS 35)).getD 4 (.Pass ⟨0, 0, 0, 0⟩)
theorem sc_Reader_mapping : FnScope ["self", "depth", "entries", "word"] ["self", "depth"] (defScope s_Reader_mapping) := ⟨rfl, rfl, rfl, by decide +kernel, rfl, by decide +kernel, by decide +kernel⟩
-- slots: 0:self 1:depth 2:entries(cell) 3:word
theorem ok_rmap {n : Nat} {f : Addr} {fd : FuncData} (F : Fun K "mapping" "Reader.mapping" s_Reader_mapping f fd) (T : TxtP K mg aS) (X : RTx K C) (XB : CalY P w K mg base 1 "BadTerm" CB (spIP K)) (XD : CalY P w K mg base 1 "TooDeep" CD (spIP K))
    (M_take : CalM P w K mg base 3 C "take" (spRTake K C CB)) (M_term : CalM P w K mg base (2 * n + 4) C "term" (rdTerm K C CB CD n)) :
    FnOk P w K mg base (L2.CX P w) (2 * n + 5) f fd ["self", "depth"] (spMap K C CB CD n) := by
  refine F.okX sc_Reader_mapping (fun vs H Q E h => ?_) (fun cdv A outer s H vs Q E hr h => ?_)
  · obtain ⟨_, _, _, _, _, _, _, _, rfl, _⟩ := h
    rfl
  obtain ⟨p, dS, L, sig, tk, i, d, qq, rfl, r, e, ok, hd, hf, q⟩ := h
  refine ⟨_, (pss_cons (ps_if (pt_cmpR op_ge (pv 1) (pe_glI (n := 60) rfl T.g_MO) (nomark _)) (pss_one (ps_raise rfl (takes_of rfl rfl rfl rfl) <| pmk_y XD hr (by omega) rfl (pa_cons (pe_ix ix_tup (pe_ix ix_list (pe_fld (pv 0) rfl) (pe_fld (pv 0) rfl) (fun _ _ => rfl)) pe_int (fun _ _ => rfl)) pa_nil))) pss_nil)
    (pss_cons (ps_expr (pe_mr M_take (takes_of rfl rfl rfl rfl) hr (by omega) (pv 0) (pa_cons pe_str pa_nil)))
    (pss_cons (ps_set (i := 2) sc_Reader_mapping.nd rfl (Or.inr rfl) pe_dnewK)
    (C8.pss_cut (ps_while (passes_of rfl) (PW.pt (pw_and (pt_cmpR op_eq (pe_ix ix_tup (pe_ix ix_list (pe_fld (pv 0) rfl) (pe_fld (pv 0) rfl) (fun _ _ => rfl)) pe_int (fun _ _ => rfl)) pe_str (nomark _)) (pw_and1 (pt_cmp (pc_dnotin (hu_of hr) (pe_ix ix_tup (pe_ix ix_list (pe_fld (pv 0) rfl) (pe_fld (pv 0) rfl) (fun _ _ => rfl)) pe_int (fun _ _ => rfl)) (pv 2)))))) (pss_cons (ps_set (i := 3) sc_Reader_mapping.nd rfl (Or.inl rfl) (pe_mr M_take (takes_of rfl rfl rfl rfl) hr (by omega) (pv 0) (pa_cons pe_str pa_nil)))
    (pss_one (ps_dput (hu_of hr) (pv 2) (pv 3) (pe_mr M_term (takes_of rfl rfl rfl rfl) hr (by omega) (pv 0) (pa_cons (pe_op op_add (pv 1) pe_int) pa_nil)) rfl))))
    (pss_cons (ps_expr (pe_mr M_take (takes_of rfl rfl rfl rfl) hr (by omega) (pv 0) (pa_cons pe_str pa_nil)))
    (pss_one (ps_ret (pe_tup (pa_cons pe_str (pa_cons (pe_callTy call_tuple_of (by rfl) T.z_tuple (by decide +kernel) (pa_cons (pe_lc (own := [("word", 3)]) (g := (gName 3)) (tt := tYes) (by rfl) sc_Reader_mapping.nd (pi_list (pe_callB (call_sortedD (by rfl)) (by rfl) T.z_sorted (by decide +kernel) (pa_cons (pv 2) pa_nil))) (blkOk_by (N := ["self", "depth", "entries", "word"]) (sc := defScope s_Reader_mapping) (by decide +kernel)) (fun _ _ _ _ _ => (pg_name (i := 3) sc_Reader_mapping.nd rfl (Or.inl rfl))) (fun _ _ _ _ _ => pts_nil) (fun _ _ _ _ _ => (pe_tup (pa_cons (pv 3) (pa_cons (pe_dget (hu_of hr) (pv 2) (pv 3) (fun _ _ => rfl)) pa_nil))))) pa_nil)) pa_nil)))))))))), ?_⟩
  obtain ⟨dx, hp⟩ := id r.at_
  unfold pMap at q
  refine ⟨_, rfl, _, _, rfl, rfl, _, rfl, ?_⟩
  by_cases h60 : 60 ≤ d
  · rw [if_pos h60] at q
    rw [decide_eq_true (show (60 : Int) ≤ (d : Int) by omega)]
    refine iteT (vHere X rfl r e fun t w st dw => ⟨t, _, _, _, rfl, rfl, st, rfl, ?_⟩)
    exact madeP (σ := []) XD.no fun d' H' sm' hd' => q d' H' (Keep.ofSame sm') hd'
  rw [if_neg h60] at q
  rw [decide_eq_false (show ¬ (60 : Int) ≤ (d : Int) by omega)]
  refine iteF ⟨_, rfl, p, dx, _, rfl, hp, rfl, p, dS, L, _, sig, tk, i, _, qq, rfl, r, e, fun _ v H1 k1 r1 _ => ?_, fun z => absurd rfl z⟩
  have q1 := outR.keep q k1
  clear q
  have h1 := ok.ended.lt e (by intro z; cases z)
  obtain ⟨N, hN, few⟩ := ok.few
  intro D hD
  obtain ⟨dx1, hp1⟩ := id r1.at_
  have nD : p ≠ D := ne_of_none hp1 hD
  have r2 := r1.same (same_new (o := .dK []) hD)
  refine ⟨fun σ H' => ∃ (kvs : List (Key × V)) (es : List (Str × Rm)) (j : Nat) (b : Option V), σ = [some (.ref p), some (.int (d : Nat)), some (.ref D), b] ∧ Keep p H1 H' ∧ H' D = some (.dK kvs) ∧
    kvs.map (·.1) = (es.map (·.1)).map Sum.inr ∧ DtAll K H' (kvs.map (·.2)) (es.map (·.2.d)) ∧ (es.map (·.1)).Nodup ∧ es.length < 64 ∧ RdA K H' p C dS L sig tk j ∧ j < tk.length ∧
    pEnts (pTerm sig tk n (d + 1)) tk tk.length (i + 1) [] = .ok (es, j), ?_, ?_⟩
  · refine ⟨fun m σ H' => ∃ (kvs : List (Key × V)) (es : List (Str × Rm)) (j g : Nat) (b : Option V), σ = [some (.ref p), some (.int (d : Nat)), some (.ref D), b] ∧ m = tk.length - j ∧ Keep p H1 H' ∧ H' D = some (.dK kvs) ∧
      kvs.map (·.1) = (es.map (·.1)).map Sum.inr ∧ DtAll K H' (kvs.map (·.2)) (es.map (·.2.d)) ∧ (es.map (·.1)).Nodup ∧ (∀ x ∈ es.map (·.1), x ∈ N) ∧ RdA K H' p C dS L sig tk j ∧ j < tk.length ∧ tk.length ≤ g + j ∧
      pEnts (pTerm sig tk n (d + 1)) tk tk.length (i + 1) [] = pEnts (pTerm sig tk n (d + 1)) tk g j es, ⟨_, [], [], i + 1, tk.length, none, rfl, rfl, Keep.ofSame (same_new hD), upd_same, rfl, .nil, .nil, (fun _ h => nomatch h), r2, h1, by omega, rfl⟩, ?_⟩
    rintro m σ H' ⟨kvs, es, j, g, b, rfl, rfl, kp, hw, ek, da, nd, hN2, rj, hj, hg, em⟩
    obtain ⟨dxj, hpj⟩ := id rj.at_
    obtain ⟨⟨k, q3⟩, e3⟩ : ∃ x, tk[j]? = some x := ⟨_, List.getElem?_eq_getElem hj⟩
    have les : es.length ≤ N.length := by
      have := inj_le (es.map (·.1)) N nd hN2
      rwa [List.length_map] at this
    have lk : kvs.length = es.length := by
      have := congrArg List.length ek
      simpa using this
    have out : (∀ x, k = .name x → x ∈ es.map (·.1)) → ∃ (kvs : List (Key × V)) (es : List (Str × Rm)) (j : Nat) (b' : Option V), [some (V.ref p), some (.int (d : Nat)), some (.ref D), b] = [some (.ref p), some (.int (d : Nat)), some (.ref D), b'] ∧ Keep p H1 H' ∧ H' D = some (.dK kvs) ∧
        kvs.map (·.1) = (es.map (·.1)).map Sum.inr ∧ DtAll K H' (kvs.map (·.2)) (es.map (·.2.d)) ∧ (es.map (·.1)).Nodup ∧ es.length < 64 ∧ RdA K H' p C dS L sig tk j ∧ j < tk.length ∧
        pEnts (pTerm sig tk n (d + 1)) tk tk.length (i + 1) [] = .ok (es, j) := fun h =>
      ⟨kvs, es, j, b, rfl, kp, hw, ek, da, nd, by omega, rj, hj, em.trans (ents_stop e3 h)⟩
    refine vHere X rfl rj e3 fun t w st dw => ⟨t, _, _, _, rfl, rfl, st, rfl, ?_⟩
    refine ⟨rfl, _, rfl, ?_⟩
    by_cases hk : ∃ x, k = .name x
    · obtain ⟨x, rfl⟩ := hk
      refine sT rfl ?_
      cases dw
      refine vHere X rfl rj e3 fun t2 w2 st2 dw2 => ⟨t2, _, _, _, rfl, rfl, st2, rfl, ?_⟩
      cases dw2
      refine ⟨_, rfl, D, _, rfl, DGet.k (k := Sum.inr x) hw, _, rfl, ?_⟩
      by_cases hx : x ∈ es.map (·.1)
      · have hv : valV kvs (Sum.inr x) ≠ none := fun z => (valV_none ek).mp z hx
        cases hvv : valV kvs (Sum.inr x) with
        | none => exact absurd hvv hv
        | some v0 => exact iteF (out fun y hy => by cases hy; exact hx)
      · rw [(valV_none ek).mpr hx]
        have h4 := ok.ended.lt e3 (by intro z; cases z)
        obtain ⟨g', rfl⟩ : ∃ g', g = g' + 1 := ⟨g - 1, by omega⟩
        rw [ents_name e3 hx] at em
        refine iteT ⟨fun σ H2 => ∃ m', m' < tk.length - j ∧ ∃ (kvs : List (Key × V)) (es : List (Str × Rm)) (j g : Nat) (b : Option V), σ = [some (.ref p), some (.int (d : Nat)), some (.ref D), b] ∧ m' = tk.length - j ∧ Keep p H1 H2 ∧ H2 D = some (.dK kvs) ∧
          kvs.map (·.1) = (es.map (·.1)).map Sum.inr ∧ DtAll K H2 (kvs.map (·.2)) (es.map (·.2.d)) ∧ (es.map (·.1)).Nodup ∧ (∀ x ∈ es.map (·.1), x ∈ N) ∧ RdA K H2 p C dS L sig tk j ∧ j < tk.length ∧ tk.length ≤ g + j ∧
          pEnts (pTerm sig tk n (d + 1)) tk tk.length (i + 1) [] = pEnts (pTerm sig tk n (d + 1)) tk g j es, fun σ' H2 h => h, ?_⟩
        refine ⟨_, rfl, p, dxj, _, rfl, hpj, rfl, p, dS, L, _, sig, tk, j, _, q3, rfl, rj, e3, fun _ v5 H5 k5 r5 d5 => ?_, fun z => absurd rfl z⟩
        cases d5
        obtain ⟨dx5, hp5⟩ := id r5.at_
        have hw5 := k5 _ _ (ne_of hw hpj (fun z => by cases z)) hw
        refine ⟨_, rfl, p, dx5, _, rfl, hp5, rfl, _, rfl, _, _, rfl, rfl, p, dS, L, sig, tk, j + 1, d + 1, rfl, r5, h4, ok, by omega, by omega, ?_⟩
        cases ht : pTerm sig tk n (d + 1) (j + 1) with
        | error z =>
          rw [ht] at em
          dsimp only at em
          rw [em] at q1
          exact q1.keep (kp.trans k5)
        | ok z =>
          obtain ⟨tm, l⟩ := z
          rw [ht] at em
          dsimp only at em
          intro v6 H6 k6 r6 d6
          have hw6 := k6 _ _ (ne_of hw5 hp5 (fun z => by cases z)) hw5
          have hlt := term_lt ok.ended _ _ _ _ _ h4 ht
          obtain ⟨dx6, hp6⟩ := id r6.at_
          refine ⟨_, rfl, _, rfl, D, _, rfl, DPut.k (k := Sum.inr x) hw6 (smallL (by omega)), ?_⟩
          refine ⟨_, by omega, kvs ++ [(Sum.inr x, v6)], es ++ [(x, tm)], l, g', _, rfl, rfl, ?_, ?_, ?_, ?_, ?_, ?_, ?_, hlt.2, by omega, em⟩
          · intro b' o hb' ho
            rw [upd_ne (ne_of_none ho hD)]
            exact ((kp.trans k5).trans k6) b' o hb' ho
          · rw [upd_same, putK_new _ ((valV_none ek).mpr hx)]
          · rw [List.map_append, ek, List.map_append, List.map_append]; rfl
          · rw [List.map_append, List.map_append]
            exact DtAll.mono (fun _ _ z => seqT_updK z hw6) _ _ (DtAll.append ((da.keep k5 hpj).keep k6 hp5) (.cons d6 .nil))
          · rw [List.map_append]
            exact List.nodup_append.mpr ⟨nd, by simp, fun a ha b hb e => hx (by
              have hb' : b = x := List.mem_singleton.mp hb
              rw [hb'] at e; rw [← e]; exact ha)⟩
          · intro y hy
            rw [List.map_append] at hy
            rcases List.mem_append.mp hy with h | h
            · exact hN2 y h
            · rw [List.mem_singleton.mp h]; exact few x q3 (List.mem_of_getElem? e3)
          · obtain ⟨ws', hL, dL⟩ := r6.tl
            have nS : dS ≠ D := fun z => by
              have h0 := r1.sg
              rw [z, hD] at h0; cases h0
            exact ⟨⟨dx6, by rw [upd_ne nD]; exact hp6⟩, by rw [upd_ne nS]; exact r6.sg, ws', by rw [upd_ne (ne_of hL hw6 (fun z => by cases z))]; exact hL, DtAll.mono (fun _ _ z => seqT_updK z hw6) _ _ dL⟩
    · have nk : k.kind ≠ "name" := by
        intro z
        cases k with
        | name x => exact hk ⟨x, rfl⟩
        | sg x =>
          have nk : ∀ y ∈ SIGNS, y ≠ "name" := by decide +kernel
          exact absurd z (nk x (ok.signs x q3 (List.mem_of_getElem? e3)))
        | int _ => exact absurd z (by show ("int" : Str) ≠ _; decide +kernel)
        | word _ => exact absurd z (by show ("word" : Str) ≠ _; decide +kernel)
        | addr _ => exact absurd z (by show ("addr" : Str) ≠ _; decide +kernel)
        | var _ => exact absurd z (by show ("meta" : Str) ≠ _; decide +kernel)
        | bad => exact absurd z (by decide +kernel)
        | fin => exact absurd z (by decide +kernel)
      refine sF nk ?_
      exact iteF (out fun y hy => absurd ⟨y, hy⟩ hk)
  · rintro σ H' ⟨kvs, es, j, b, rfl, kp, hw, ek, da, nd, l64, rj, hj, em⟩
    rw [em] at q1
    dsimp only at q1
    obtain ⟨⟨k4, q4⟩, e4⟩ : ∃ x, tk[j]? = some x := ⟨_, List.getElem?_eq_getElem hj⟩
    obtain ⟨dxj, hpj⟩ := id rj.at_
    unfold pClose at q1
    rw [e4] at q1
    dsimp only at q1
    refine ⟨_, rfl, p, dxj, _, rfl, hpj, rfl, p, dS, L, _, sig, tk, j, k4, q4, rfl, rj, e4, fun hk4 v4 H4 kk4 r4 _ => ?_, fun hk4 => ?_⟩
    · rw [if_pos hk4] at q1
      have hw4 := kk4 _ _ (ne_of hw hpj (fun z => by cases z)) hw
      have da4 := da.keep kk4 hpj
      refine ⟨_, rfl, D, kvs, es.map (·.1), rfl, .of hw4, ek, by rw [List.length_map]; exact l64, fun ys Y hperm hsort hY => ?_⟩
      have s5 := same_new (H := H4) (o := .lst (ys.map V.str)) hY
      have hpm : ∀ y ∈ ys, y ∈ es.map (·.1) := fun y hy => hperm.subset hy
      have ly : ys.length < 64 := by rw [hperm.length_eq, List.length_map]; exact l64
      refine ⟨Y, rfl, ⟨_, SqL.of upd_same⟩, fun D2 hD2 => lc_list (K := K) (a := Y) (xs := ys.map V.str) (fun a H'' => ∃ (ws : List V) (zs : List (Str × Rm)), a ≤ ys.length ∧ Same (upd H4 Y (.lst (ys.map V.str))) H'' ∧ H'' D2 = some (.lst ws) ∧
        DtAll K H'' ws (Rm.es zs) ∧ zs.map (·.1) = ys.take a ∧ ∀ z ∈ zs, z ∈ es) ?_ (fun a H'' _ h => ?_) ?_ ?_⟩
      · exact ⟨[], [], Nat.zero_le _, same_new hD2, upd_same, by unfold Rm.es; exact .nil, rfl, fun _ h => nomatch h⟩
      · obtain ⟨_, _, _, s6, _⟩ := h
        exact s6.seq (SqL.of upd_same)
      · rintro a x H'' hx ⟨ws, zs, ha, s6, hD3, dz, ez, hz⟩
        have ha2 : a < ys.length := by
          have := (List.getElem?_eq_some_iff.mp hx).1
          rwa [List.length_map] at this
        rw [List.getElem?_map, List.getElem?_eq_getElem ha2] at hx
        cases hx
        obtain ⟨v6, t6, hv6, hm6, d6⟩ := valV_at (kvs := kvs) (es := es) kvs es ek da4 ys[a] (hpm _ (List.getElem_mem ha2))
        have hDn : H'' D = some (.dK kvs) := s6 _ _ (s5 _ _ hw4)
        have lw : ws.length = zs.length := by have := dz.length; rwa [Rm.es_map, List.length_map] at this
        have lz : zs.length = a := by
          have := congrArg List.length ez
          rw [List.length_map, List.length_take] at this
          omega
        refine ⟨rfl, yes_ ⟨_, rfl, _, rfl, _, rfl, D, v6, rfl, ?_, small (by show 2 ≤ _; decide), fun t ht => ⟨ws, ?_, smallL (by omega), ws ++ [.ref t], zs ++ [(ys[a], t6)], ha2, ?_, upd_same, ?_, ?_, ?_⟩⟩⟩
        · have := DGet.k (k := Sum.inr ys[a]) hDn
          rw [hv6] at this
          exact this
        · rw [upd_ne (ne_of_none hD3 ht)]; exact hD3
        · exact Same.upd (Same.upd s6 (s6.free ht)) hD2
        · rw [Rm.es_map, List.map_append, ← Rm.es_map]
          exact dz.snoc (same_new ht) (by rw [upd_ne (ne_of_none hD3 ht)]; exact hD3) (Dt.mk2 ht (.str _) ((d6.same s5).same s6))
        · rw [List.map_append, ez, List.take_add_one, List.getElem?_eq_getElem ha2]; rfl
        · intro z hz'
          rcases List.mem_append.mp hz' with h | h
          · exact hz z h
          · rw [List.mem_singleton.mp h]; exact hm6
      · rintro H'' ⟨ws, zs, _, s6, hD3, dz, ez, hz⟩
        rw [List.length_map, List.take_length] at ez
        have ee : zs = ents es := ents_of nd (by rw [ez]; exact hperm) (by rw [ez]; exact sorted_pw hsort) hz
        refine ⟨D2, _, rfl, .inl ⟨SqL.of hD3, fun l hl => ⟨small (by show 2 ≤ _; decide), fun t ht => ?_⟩⟩⟩
        have s7 := same_new (H := H'') (o := .tup ws) hl
        have s8 := (s5.trans s6).trans (s7.trans (same_new (o := .tup [.str "map", .ref l]) ht))
        refine q1 _ _ ((kp.trans kk4).trans (Keep.ofSame s8)) (r4.same s8) ?_
        unfold Rm.d
        rw [← ee]
        exact Dt.mk2 ht (.str _) (.tup (SqT.of upd_same) (dz.same s7))
    · rw [if_neg hk4] at q1
      intro d' H'' k' hd'
      exact q1 d' H'' (kp.trans k') hd'
end
end PK
namespace PK
open PySem L2 _root_.TL PyProof.Rows
structure CalC (P : Program) (w : World) (K : PySem.W.Frag) (mg : Str → Option Value) (base : Heap) (k : Nat) (x : Str) (C : Addr) (sp : Sp) : Prop where
  gC : mg x = some (.ref C)
  ex : ∃ (f : Addr) (fd : FuncData) (ps : List Str), Mk K C f ∧ FnOk P w K mg base CX0 k f fd ps sp ∧ Binds K fd ps []
section
variable {X : Cx} {k j : Nat} {x : Str} {sp : Sp} {p pos : Pos} {e : Expr} {es : List Expr} {t : TA} {C : Addr}
theorem pe_mk (c : CalC X.prog X.w X.K X.mg X.base k x C sp) (hr : Room j X.A) (hk : k + 1 ≤ j) (hg : Gl X x) (ha : PA X (e :: es) t)
    (hdb : (x == ("__debug__" : Str)) = false := by decide) (he : starEach (e :: es) X.env = (false, eval e X.env) :: starEach es X.env := by rfl) (hpl : (backTo pos (starEach es X.env)).any (·.1) = false := by rfl) :
    PE X (.Call (.Name x p) (e :: es) [] pos) (tMake C sp [] C8.E0 t) := by
  obtain ⟨f, fd, ps, M, F, b⟩ := c.ex
  exact pe_make M F (hr.mono hk) hg c.gC b .nil pass0 ha hdb he hpl
end
theorem tokOf_sg {p : List Nat} {s : Str} (h : tokOf p = .sg s) : s ∈ SIGNS := by
  unfold tokOf at h
  split at h
  · rename_i h1
    cases h; exact h1
  · repeat' split at h
    all_goals cases h
theorem scan_sg : ∀ (f p : Nat) (cs : List Nat) (s : Str) (q : Nat), (Tk.sg s, q) ∈ scan f p cs → s ∈ SIGNS := by
  intro f
  induction f with
  | zero => intro p cs s q h; cases h
  | succ f ih =>
    intro p cs s q h
    cases cs with
    | nil => rw [scan_nil] at h; cases h
    | cons c r =>
      by_cases hc : c ∈ SEP.cps.toList
      · rw [scan_sep hc] at h; exact ih _ _ _ _ h
      · rw [scan_tok hc] at h
        rcases List.mem_cons.mp h with e | e
        · exact tokOf_sg (Prod.mk.inj e).1.symm
        · exact ih _ _ _ _ e
theorem scan_len : ∀ (f p : Nat) (cs : List Nat), (scan f p cs).length ≤ cs.length := by
  intro f
  induction f with
  | zero => intro p cs; exact Nat.zero_le _
  | succ f ih =>
    intro p cs
    cases cs with
    | nil => exact Nat.le_refl _
    | cons c r =>
      by_cases h : c ∈ SEP.cps.toList
      · rw [scan_sep h]
        exact Nat.le_succ_of_le (ih _ _)
      · rw [scan_tok h, List.length_cons, List.length_cons]
        have h0 : 0 < tokLen (c :: r) := tokLen_pos (by simp)
        have := ih (p + tokLen (c :: r)) ((c :: r).drop (tokLen (c :: r)))
        rw [List.length_drop, List.length_cons] at this
        omega
theorem toks_ok {sig : List (Str × Nat)} {cs : List Nat} (hl : cs.length ≤ 4000) (few : ∃ N : List Str, N.length < 64 ∧ ∀ w p, (Tk.name w, p) ∈ toks cs → w ∈ N) (low : ∀ e ∈ sig, e.2 ≤ 1000) : TkOk sig (toks cs) where
  len := by
    unfold toks
    have := scan_len cs.length 0 cs
    rw [List.length_append, List.length_singleton]; omega
  ended := toks_ended cs
  signs := fun s p h => by
    unfold toks at h
    rcases List.mem_append.mp h with e | e
    · exact scan_sg _ _ _ _ _ e
    · have := List.mem_singleton.mp e
      cases this
  few := few
  low := low
def spRInit (K : PySem.W.Frag) (C : Addr) : Sp := fun vs H Q _ => ∃ (p dx dS : Addr) (x : Str) (sig : List (Str × Nat)), vs = [.ref p, .ref dS, .str x] ∧ H p = some (.ins C dx []) ∧ H dS = some (.dK (sigK sig)) ∧ x.length ≤ 4000 ∧
  ∀ H' L, Keep p H H' → RdA K H' p C dS L sig (toks x.cps.toList) 0 → Q .non H'
/-- what comes of a text -/
def outT (K : PySem.W.Frag) (CB CD : Addr) (H : Hp) (Q : VK) (E : XK) : Except PErr Rm → Prop
  | .ok t => ∀ v H', Same H H' → Dt K H' v t.d → Q v H'
  | .error (b, q) => ∀ d H', Same H H' → H' d = some (.xd [("position", .int (q : Nat))]) → E (.ref (if b then CD else CB)) (some d) H'
structure TxtR (K : PySem.W.Frag) (mg : Str → Option Value) (aS CL CP : Addr) : Prop extends TxtP K mg aS where
  gL : mg "TooLong" = some (.ref CL)
  xL : PySem.W.excIn K CL [.type "ValueError", .type "Exception", .type "BaseException", .type "object"] "ValueError.__new__" = true
  kL : PySem.W.keepIn K (.ref CL) = true
  bL : PySem.W.subIn K (.ref CL) (.type "BaseException") = some true
  tL : PySem.W.typeIn K (.ref CL) = some (.type "type")
  eL : PySem.W.exmOne K (.ref CL) (.ref CL) = some true
  gP : mg "PassError" = some (.ref CP)
  cE : ExcC K CL
  kP : PySem.W.kitOne K (.ref CL) (.ref CP) = some true
  kV : PySem.W.kitOne K (.ref CL) (.type "ValueError") = some true
  z_ValueError : mg "ValueError" = none
  z_repr : mg "repr" = none
  z_dict : mg "dict" = none
def spRead (K : PySem.W.Frag) (CB CD CL : Addr) : Sp := fun vs H Q E => ∃ (dS : Addr) (x : Str) (sig : List (Str × Nat)), vs = [.ref dS, .str x] ∧ H dS = some (.dK (sigK sig)) ∧ x.length ≤ 100000 ∧
  (x.length ≤ 4000 → TkOk sig (toks x.cps.toList) ∧ outT K CB CD H Q E (pRead sig x.cps.toList)) ∧ (4000 < x.length → E (.ref CL) none H)
section
variable {P : Program} {w : World} {K : PySem.W.Frag} {mg : Str → Option Value} {base : Heap} {aS C CB CD CL CP : Addr}
abbrev s_Reader___init__ : Stmt := (C8.clsBody (topS 35)).getD 0 (.Pass ⟨0, 0, 0, 0⟩)
theorem sc_Reader___init__ : FnScope ["self", "signature", "text"] ["self", "signature", "text"] (defScope s_Reader___init__) := ⟨rfl, rfl, rfl, by decide +kernel, rfl, by decide +kernel, by decide +kernel⟩
-- slots: 0:self 1:signature 2:text
abbrev s_read_term : Stmt := topS 29
theorem sc_read_term : FnScope ["signature", "text", "reader", "term"] ["signature", "text"] (defScope s_read_term) := ⟨rfl, rfl, rfl, by decide +kernel, rfl, by decide +kernel, by decide +kernel⟩
-- slots: 0:signature 1:text 2:reader 3:term
theorem ok_rinit {f : Addr} {fd : FuncData} (F : Fun K "__init__" "Reader.__init__" s_Reader___init__ f fd) (X : RTx K C) (C_tokens_of : C8.Cal P w K mg base 4 "_tokens_of" (spToks K) []) : FnOk P w K mg base CX0 5 f fd ["self", "signature", "text"] (spRInit K C) := by
  refine F.ok sc_Reader___init__ (fun vs H Q E h => ?_) (fun cdv A outer s H vs Q E hr h => ?_)
  · obtain ⟨_, _, _, _, _, rfl, _⟩ := h
    rfl
  obtain ⟨p, dx, dS, x, sig, rfl, hp, hS, hx, q⟩ := h
  refine ⟨_, (pss_cons (ps_fld (pv 0) (pv 1) rfl)
    (pss_cons (ps_fld (pv 0) (C8.pe_c C_tokens_of hr (by decide) rfl (pa_cons (pv 2) pa_nil)) rfl)
    (pss_one (ps_fld (pv 0) pe_int rfl)))), ?_⟩
  have nS : dS ≠ p := ne_of hS hp (fun z => by cases z)
  refine ⟨_, rfl, _, rfl, p, C, dx, _, rfl, hp, X.cl, X.nS, (by show 0 < 1000; decide), ?_⟩
  refine ⟨_, rfl, x, rfl, by omega, fun H1 L ws s1 hL hw da => ?_⟩
  refine ⟨_, rfl, p, C, dx, _, rfl, s1 _ _ upd_same, X.cl, X.nT, (by show 1 < 1000; decide), ?_⟩
  refine ⟨_, rfl, p, C, dx, _, rfl, upd_same, X.cl, X.nA, (by show 2 < 1000; decide), ?_⟩
  have nL : L ≠ p := fun z => by subst z; rw [upd_same] at hL; cases hL
  refine q _ L (fun b o hb ho => ?_) ⟨⟨dx, upd_same⟩, ?_, ws, ?_, ?_⟩
  · rw [upd_ne hb, upd_ne hb]
    exact s1 _ _ (by rw [upd_ne hb]; exact ho)
  · rw [upd_ne nS, upd_ne nS]
    exact s1 _ _ (by rw [upd_ne nS]; exact hS)
  · rw [upd_ne nL, upd_ne nL]; exact hw
  · refine da.keep (p := p) (C := C) (dx := dx) (fs := _) (fun b o hb ho => ?_) (s1 _ _ upd_same)
    rw [upd_ne hb, upd_ne hb]; exact ho
theorem ok_read {f : Addr} {fd : FuncData} (F : Fun K "read_term" "read_term" s_read_term f fd) (T : TxtR K mg aS CL CP) (MR : CalC P w K mg base 5 "Reader" C (spRInit K C))
    (M_term : CalM P w K mg base 126 C "term" (rdTerm K C CB CD 61)) (M_take : CalM P w K mg base 3 C "take" (spRTake K C CB)) : FnOk P w K mg base (L2.CX P w) 128 f fd ["signature", "text"] (spRead K CB CD CL) := by
  refine F.okX sc_read_term (fun vs H Q E h => ?_) (fun cdv A outer s H vs Q E hr h => ?_)
  · obtain ⟨_, _, _, rfl, _⟩ := h
    rfl
  obtain ⟨dS, x, sig, rfl, hS, hxl, q0, qE⟩ := h
  refine ⟨_, (pss_cons (ps_if (pt_cmpR op_gt (pe_callB call_len_str (by rfl) T.z_len (by decide +kernel) (pa_cons (pv 1) pa_nil)) (pe_glI (n := 4000) rfl T.g_MT) (nomark _)) (pss_one (ps_raise rfl (takes_of rfl rfl rfl rfl) (pmk_own PySem.F.excBase_ValueError T.xL T.gL T.kL (raises_own T.bL T.tL) rfl))) pss_nil)
    (pss_cons (ps_set (i := 2) sc_read_term.nd rfl (Or.inl rfl) (pe_mk MR hr (by decide) rfl (pa_cons (pv 0) (pa_cons (pv 1) pa_nil))))
    (pss_cons (ps_set (i := 3) sc_read_term.nd rfl (Or.inl rfl) (pe_mr M_term (takes_of rfl rfl rfl rfl) hr (by decide) (pv 2) (pa_cons pe_int pa_nil)))
    (pss_cons (ps_expr (pe_mr M_take (takes_of rfl rfl rfl rfl) hr (by decide) (pv 2) (pa_cons pe_str pa_nil)))
    (pss_one (ps_ret (pv 3))))))), ?_⟩
  refine ⟨_, rfl, x, rfl, small (by omega), _, _, rfl, rfl, _, rfl, ?_⟩
  by_cases hx : 4000 < x.length
  · rw [decide_eq_true (show (x.length : Int) > 4000 by omega)]
    exact iteT (qE hx)
  have hx : x.length ≤ 4000 := by omega
  obtain ⟨ok, q⟩ := q0 hx
  rw [decide_eq_false (show ¬ (x.length : Int) > 4000 by omega)]
  refine iteF ⟨_, rfl, _, rfl, fun p dx hp hdx ne => ?_⟩
  have nS : dS ≠ p := ne_of_none hS hp
  have nS2 : dS ≠ dx := ne_of_none hS hdx
  refine ⟨p, dx, dS, x, sig, rfl, upd_same, by rw [upd_ne nS, upd_ne nS2]; exact hS, hx, fun H1 L k1 r1 => ⟨rfl, ?_⟩⟩
  have sm : ∀ {H2 : Hp}, Keep p H1 H2 → Same H H2 := fun k2 b o hb => by
    have h1 : b ≠ p := ne_of_none hb hp
    have h2 : b ≠ dx := ne_of_none hb hdx
    exact k2 b o h1 (k1 b o h1 (by rw [upd_ne h1, upd_ne h2]; exact hb))
  obtain ⟨dx1, hp1⟩ := id r1.at_
  have l0 : 0 < (toks x.cps.toList).length := by unfold toks; rw [List.length_append, List.length_singleton]; omega
  unfold pRead at q
  refine ⟨_, rfl, p, dx1, _, rfl, hp1, rfl, p, dS, L, sig, _, 0, 0, rfl, r1, l0, ok, by omega, by omega, ?_⟩
  cases ht : pTerm sig (toks x.cps.toList) 61 0 0 with
  | error z =>
    rw [ht] at q
    exact fun d H' k' hd => q d H' (sm k') hd
  | ok z =>
    obtain ⟨tm, j⟩ := z
    rw [ht] at q
    dsimp only at q
    have hj := (term_lt ok.ended _ _ _ _ _ l0 ht).2
    obtain ⟨⟨k, q3⟩, e3⟩ : ∃ x', (toks x.cps.toList)[j]? = some x' := ⟨_, List.getElem?_eq_getElem hj⟩
    rw [e3] at q
    dsimp only at q
    intro v H' k' r' dv
    obtain ⟨dxj, hpj⟩ := id r'.at_
    have kf : k.kind = "end" ↔ k = .fin := ⟨fun z => by
        cases k with
        | fin => rfl
        | sg y =>
          have nk : ∀ y ∈ SIGNS, y ≠ "end" := by decide +kernel
          exact absurd z (nk y (ok.signs y q3 (List.mem_of_getElem? e3)))
        | int _ => exact absurd z (by show ("int" : Str) ≠ _; decide +kernel)
        | word _ => exact absurd z (by show ("word" : Str) ≠ _; decide +kernel)
        | name _ => exact absurd z (by show ("name" : Str) ≠ _; decide +kernel)
        | addr _ => exact absurd z (by show ("addr" : Str) ≠ _; decide +kernel)
        | var _ => exact absurd z (by show ("meta" : Str) ≠ _; decide +kernel)
        | bad => exact absurd z (by decide +kernel), fun z => by rw [z]; rfl⟩
    refine ⟨_, rfl, p, dxj, _, rfl, hpj, rfl, p, dS, L, _, sig, _, j, k, q3, rfl, r', e3, fun hk v5 H5 k5 r5 _ => ?_, fun hk d H5 k5 hd => ?_⟩
    · rw [if_pos (kf.mp hk)] at q
      exact ⟨_, rfl, q _ _ (sm (k'.trans k5)) (dv.keep k5 hpj)⟩
    · rw [if_neg (fun z => hk (kf.mpr z))] at q
      exact q d H5 (sm (k'.trans k5)) hd
end
end PK
namespace PK
open PySem L2 _root_.TL
/-! texts in which tokens lie -/
theorem app_list (a b : Str) : (a ++ b).cps.toList = a.cps.toList ++ b.cps.toList := by
  show (a.cps ++ b.cps).toList = _
  rw [Array.toList_append]
theorem sep_oth : ∀ c ∈ SEP.cps.toList, c ∉ OTH.cps.toList := by decide +kernel
def Blk (b : Str) : Prop := ∀ c ∈ b.cps.toList, c ∈ SEP.cps.toList
theorem pfx_list {p : Str} {c : Nat} (hp : p.cps.toList = [c]) (w : Str) : (p ++ w).cps.toList = c :: w.cps.toList := by rw [app_list, hp]; rfl
abbrev txt (n : Int) : Str := Str.ofString (toString n)
theorem txt_nat (n : Nat) : (txt (n : Nat)).cps.toList = numL n := tl_num n
theorem txt_neg {n : Nat} (h : 0 < n) : (txt (-(n : Int))).cps.toList = 45 :: numL n := by
  show (Str.ofString (toString (-(n : Int)))).cps.toList = _
  rw [PyProof.Rows.toString_neg (by omega), PyProof.Rows.signs_ofString, show (0 : Int) - -(n : Int) = (n : Nat) by omega, String.toList_append, List.map_append]
  rw [show List.map Char.toNat (toString ((n : Nat) : Int)).toList = numL n from (PyProof.Rows.signs_ofString _).symm.trans (tl_num n)]
  rfl
theorem txt_len {n : Int} (h : -(10 ^ 15) < n ∧ n < 10 ^ 15) : (txt n).length ≤ 16 := by
  by_cases h0 : 0 ≤ n
  · obtain ⟨m, rfl⟩ : ∃ m : Nat, n = m := ⟨n.toNat, by omega⟩
    rw [len_list, txt_nat]
    have := numL_len (n := m) (k := 15) (by decide) (by omega)
    omega
  · obtain ⟨m, rfl⟩ : ∃ m : Nat, n = -(m : Int) := ⟨(-n).toNat, by omega⟩
    rw [len_list, txt_neg (by omega), List.length_cons]
    have := numL_len (n := m) (k := 15) (by decide) (by omega)
    omega
theorem log_small {n : Int} (h : -(10 ^ 15) < n ∧ n < 10 ^ 15) : n.natAbs.log2 < 1920 := by
  by_cases z : n.natAbs = 0
  · rw [z]; decide
  · refine (Nat.log2_lt z).mpr (Nat.lt_of_lt_of_le (m := 2 ^ 64) (by omega) (Nat.pow_le_pow_right (by decide) (by decide)))

abbrev MDG : List Nat := ("-@0123456789" : Str).cps.toList
abbrev SGN : List Nat := ("(){}" : Str).cps.toList
/-- which sign may stand behind a token -/
def nxtS : Tk → Nat → Prop
  | .int _, c => c ∉ DIGS.cps.toList
  | .addr _, c => c ∉ DIGS.cps.toList
  | .name _, c => c ∉ OTH.cps.toList
  | .var _, c => c ∉ OTH.cps.toList
  | .word _, c => c ∉ OTH.cps.toList
  | _, _ => True
def meetB (b c : Nat) : Bool := if b ∈ MDG then decide (c ∈ DIGS.cps.toList) else if b ∈ SGN then false else decide (c ∈ OTH.cps.toList)
/-- the text of a token -/
structure TS (k : Tk) (x : Str) : Prop where
  pc : Piece x.cps.toList (nxtS k)
  tk : tokOf x.cps.toList = k
  hi : x.length ≤ 17
  mt : ∀ c, meetB (x.cps.toList.headD 0) c = false → nxtS k c
theorem sep_nxt {k : Tk} {c : Nat} (h : c ∈ SEP.cps.toList) : nxtS k c := by
  have h1 : c ∉ OTH.cps.toList := sep_oth c h
  have h2 : c ∉ DIGS.cps.toList := fun z => h1 (dig_oth c z)
  cases k <;> first | exact trivial | exact h1 | exact h2
theorem TS.ne {k : Tk} {x : Str} (h : TS k x) : x.cps.toList ≠ [] := h.pc.1
theorem ts_sign {s : Nat} (h : s ∈ ([40, 41, 123, 125] : List Nat)) {x : Str} (hx : x.cps.toList = [s]) : TS (.sg x) x := by
  refine ⟨?_, ?_, ?_, fun _ _ => trivial⟩
  · rw [hx]; exact piece_sign h
  · rw [hx, tok_sign s h, show mkS [s] = x by rw [← hx, mk'_of]]
  · rw [len_list, hx]; show 1 ≤ 17; decide
theorem meet_num {b : Nat} (h : b ∈ MDG) {c : Nat} (m : meetB b c = false) : c ∉ DIGS.cps.toList := by
  unfold meetB at m
  rw [if_pos h] at m
  exact of_decide_eq_false m
theorem meet_word {b : Nat} (h : b ∉ MDG) (h2 : b ∉ SGN) {c : Nat} (m : meetB b c = false) : c ∉ OTH.cps.toList := by
  unfold meetB at m
  rw [if_neg h, if_neg h2] at m
  exact of_decide_eq_false m
theorem let_not : ∀ s ∈ ("'$" : Str).cps.toList ++ LET.cps.toList, s ∉ MDG ∧ s ∉ SGN := by decide +kernel
theorem dig_mdg : ∀ s ∈ DIGS.cps.toList, s ∈ MDG := by decide +kernel
theorem ts_word {w : Str} (h : Wd w) : TS (.word w) w := by
  obtain ⟨s, r, e, hs⟩ := h.hd
  have ho := h.al
  rw [e] at ho
  obtain ⟨n1, n2⟩ := let_not s (List.mem_append_right _ hs)
  refine ⟨?_, tok_word h, by have := h.hi; omega, fun c m => ?_⟩
  · rw [e]; exact piece_word (.inr hs) (fun x hx => ho x (.tail _ hx))
  · rw [e] at m; exact meet_word n1 n2 m
theorem ts_name {w : Str} (h : Wd w) : TS (.name w) ("'" ++ w) := by
  have e := pfx_list (by decide +kernel : ("'" : Str).cps.toList = [39]) w
  obtain ⟨n1, n2⟩ := let_not 39 (by decide +kernel)
  refine ⟨?_, ?_, ?_, fun c m => ?_⟩
  · rw [e]; exact piece_word (.inl (by decide +kernel : 39 ∈ ("'$" : Str).cps.toList)) h.al
  · rw [e]; exact tok_name h
  · rw [len_list, e, List.length_cons, ← len_list]; have := h.hi; omega
  · rw [e] at m; exact meet_word n1 n2 m
theorem ts_var {w : Str} (h : Wd w) : TS (.var w) ("$" ++ w) := by
  have e := pfx_list (by decide +kernel : ("$" : Str).cps.toList = [36]) w
  obtain ⟨n1, n2⟩ := let_not 36 (by decide +kernel)
  refine ⟨?_, ?_, ?_, fun c m => ?_⟩
  · rw [e]; exact piece_word (.inl (by decide +kernel : 36 ∈ ("'$" : Str).cps.toList)) h.al
  · rw [e]; exact tok_var h
  · rw [len_list, e, List.length_cons, ← len_list]; have := h.hi; omega
  · rw [e] at m; exact meet_word n1 n2 m
theorem ts_addr {n : Int} (h : 0 ≤ n ∧ n < 1000000000) : TS (.addr n) ("@" ++ txt n) := by
  obtain ⟨m, rfl⟩ : ∃ m : Nat, n = m := ⟨n.toNat, by omega⟩
  have e := pfx_list (by decide +kernel : ("@" : Str).cps.toList = [64]) (txt (m : Nat))
  have hm : m < 10 ^ 9 := by omega
  rw [txt_nat] at e
  refine ⟨?_, ?_, ?_, fun c m => ?_⟩
  · rw [e]; exact piece_num (.inl (by decide +kernel : 64 ∈ ("-@" : Str).cps.toList)) (all_dig (numL_digits m))
  · rw [e]; exact tok_addr hm
  · rw [len_list, e, List.length_cons]; have := numL_len (n := m) (k := 9) (by decide) hm; omega
  · rw [e] at m; exact meet_num (by decide +kernel : 64 ∈ MDG) m
theorem ts_int {n : Int} (h : -1000000000000000 < n ∧ n < 1000000000000000) : TS (.int n) (txt n) := by
  by_cases h0 : 0 ≤ n
  · obtain ⟨m, rfl⟩ : ∃ m : Nat, n = m := ⟨n.toNat, by omega⟩
    have hm : m < 10 ^ 15 := by omega
    have e := txt_nat m
    have hd := all_dig (numL_digits m)
    cases ed : numL m with
    | nil => exact absurd ed (numL_ne m)
    | cons a r =>
      have hd' := hd
      rw [ed] at hd'
      refine ⟨?_, ?_, ?_, fun c q => ?_⟩
      · rw [e, ed]; exact piece_num (.inr (hd' a (.head _))) (fun x hx => hd' x (.tail _ hx))
      · rw [e]; exact tok_nat hm
      · rw [len_list, e]; have := numL_len (n := m) (k := 15) (by decide) hm; omega
      · rw [e, ed] at q; exact meet_num (dig_mdg a (hd' a (.head _))) q
  · obtain ⟨m, rfl⟩ : ∃ m : Nat, n = -(m : Int) := ⟨(-n).toNat, by omega⟩
    have hm : m < 10 ^ 15 := by omega
    have e := txt_neg (n := m) (by omega)
    refine ⟨?_, ?_, ?_, fun c q => ?_⟩
    · rw [e]; exact piece_num (.inl (by decide +kernel : 45 ∈ ("-@" : Str).cps.toList)) (all_dig (numL_digits m))
    · rw [e]; exact tok_neg hm (by omega)
    · rw [len_list, e, List.length_cons]; have := numL_len (n := m) (k := 15) (by decide) hm; omega
    · rw [e] at q; exact meet_num (by decide +kernel : 45 ∈ MDG) q
inductive TSL : List Tk → List Str → Prop
  | nil : TSL [] []
  | cons {k : Tk} {x : Str} {ks : List Tk} {xs : List Str} : TS k x → TSL ks xs → TSL (k :: ks) (x :: xs)
theorem TSL.app : ∀ {a b : List Tk} {x y : List Str}, TSL a x → TSL b y → TSL (a ++ b) (x ++ y)
  | _, _, _, _, .nil, h => h
  | _, _, _, _, .cons h t, g => .cons h (t.app g)
theorem TSL.len : ∀ {a : List Tk} {x : List Str}, TSL a x → a.length = x.length
  | _, _, .nil => rfl
  | _, _, .cons _ t => by rw [List.length_cons, List.length_cons, t.len]
theorem TSL.get : ∀ {a : List Tk} {x : List Str} {i : Nat} {z : Str}, TSL a x → x[i]? = some z → ∃ k, a[i]? = some k ∧ TS k z
  | _, _, _, _, .nil, e => by simp at e
  | _, _, 0, _, .cons h t, e => by simp at e; subst e; exact ⟨_, rfl, h⟩
  | _, _, i + 1, _, .cons h t, e => by
    obtain ⟨k, h1, h2⟩ := TSL.get (i := i) t (by simpa using e)
    exact ⟨k, by simpa using h1, h2⟩
/-- what is laid so far, the last token k -/
def Pre (x : Str) (done : List Tk) (k : Tk) : Prop := ∀ u us, (∀ c ∈ u.head?, nxtS k c) → Lays u us → Lays (x.cps.toList ++ u) (done ++ us)
def LaidT (x : Str) (ts : List Tk) : Prop := ∀ u, (∀ c ∈ u, c ∈ SEP.cps.toList) → Lays (x.cps.toList ++ u) ts
theorem pre_nil (k : Tk) : Pre "" [] k := fun u us _ l => by
  show Lays ([] ++ u) ([] ++ us)
  rw [List.nil_append, List.nil_append]; exact l
theorem Pre.step {x g z : Str} {done : List Tk} {k j : Tk} (h : Pre x done k) (hg : Blk g) (hz : TS j z) (hn : g.cps.toList = [] → nxtS k (z.cps.toList.headD 0)) : Pre (x ++ g ++ z) (done ++ [j]) j := fun u us hu l => by
  rw [app_list, app_list, List.append_assoc, List.append_assoc, List.append_assoc]
  have l1 := lays_tok hz.pc hu l
  rw [hz.tk] at l1
  refine h _ (j :: us) ?_ (lays_seps hg l1)
  intro c hc
  cases eg : g.cps.toList with
  | nil =>
    have h0 := hn eg
    cases ez : z.cps.toList with
    | nil => exact absurd ez hz.ne
    | cons a r =>
      rw [ez] at h0
      rw [eg, ez] at hc
      have : a = c := by simpa using hc
      rw [← this]; exact h0
  | cons a r =>
    rw [eg] at hc
    have : a = c := by simpa using hc
    exact sep_nxt (hg c (by rw [eg, this]; exact .head _))
theorem Pre.fin {x g : Str} {done : List Tk} {k : Tk} (h : Pre x done k) (hg : Blk g) : LaidT (x ++ g) done := fun u hu => by
  rw [app_list, List.append_assoc]
  have hb : ∀ c ∈ g.cps.toList ++ u, c ∈ SEP.cps.toList := fun c hc => (List.mem_append.mp hc).elim (hg c) (hu c)
  have l0 : Lays (g.cps.toList ++ u) [] := by
    have := lays_seps (b := g.cps.toList ++ u) (u := []) hb lays_nil
    rwa [List.append_nil] at this
  have := h (g.cps.toList ++ u) [] (fun c hc => sep_nxt (hb c (List.mem_of_mem_head? hc))) l0
  rwa [List.append_nil] at this
theorem cut_hd (z : Str) (h : z.cps.toList ≠ []) : cutS z none (some 1) = ⟨#[z.cps.toList.headD 0]⟩ := by
  have hl : 1 ≤ z.length := by
    rw [len_list]; exact List.length_pos_iff.mpr h
  unfold cutS HT.sIx
  cases e : z.cps.toList with
  | nil => exact absurd e h
  | cons a r =>
    have e2 : z.length = r.length + 1 := by rw [len_list, e]; rfl
    simp [e2]
abbrev GAPS : List Str := ["", "", " ", "\n", "   ", " \n ", "\n\n"]
theorem gaps_ok : ∀ g ∈ GAPS, (∀ c ∈ g.cps.toList, c ∈ SEP.cps.toList) ∧ g.length ≤ 3 := by decide +kernel
def spMeet : Sp := fun vs H Q _ => ∃ (b x : Str), vs = [.str b, .str x] ∧ b.cps.toList ≠ [] ∧ x.cps.toList ≠ [] ∧ b.length ≤ 100 ∧ x.length ≤ 100 ∧ Q (.bl (meetB (b.cps.toList.headD 0) (x.cps.toList.headD 0))) H
def spGap : Sp := fun vs H Q _ => ∃ (l c : Addr), vs = [.ref l] ∧ Pool H l c ∧ ∀ (g : Str) (H' : Hp), Ext l c H H' → Blk g → g.length ≤ 3 → Q (.str g) H'
def spLaid (K : PySem.W.Frag) : Sp := fun vs H Q _ => ∃ (l c pw : Addr) (ks : List Tk) (xs : List Str), vs = [.ref l, .ref pw, .int 0] ∧ Pool H l c ∧ pw ≠ l ∧ H pw = some (.lst (xs.map V.str)) ∧ TSL ks xs ∧ xs.length ≤ 1000 ∧
  ∀ (H' : Hp) (p : Addr) (x : Str) (v : V), Ext l c H H' → SqT K H' p [.str x, v] → LaidT x ks → x.length ≤ 20 * xs.length + 20 → Q (.ref p) H'
end PK
namespace PK
open PySem L2 _root_.TL
/-! the words of a term -/
/-- as the reader says terms -/
def Tm.rm (t : Tm) : Rm := match t with
  | .int n => .int n
  | .name s => .name s
  | .addr n => .addr n
  | .var s => .var s
  | .node c ts => .node c (ts.attach.map fun k => k.1.rm)
  | .map es => .map (es.attach.map fun e => (e.1.1, e.1.2.rm))
  | .form _ _ => .int 0
termination_by sizeOf t
decreasing_by
  · have := List.sizeOf_lt_of_mem k.2; simp only [Tm.node.sizeOf_spec]; omega
  · have := List.sizeOf_lt_of_mem e.2
    have e2 : sizeOf e.1 = 1 + sizeOf e.1.1 + sizeOf e.1.2 := by cases e.1; rfl
    simp only [Tm.map.sizeOf_spec]; omega
theorem rm_node (c : Str) (ts : List Tm) : (Tm.node c ts).rm = .node c (ts.map Tm.rm) := by
  rw [Tm.rm, List.attach_map_val (f := Tm.rm)]
theorem rm_map (es : List (Str × Tm)) : (Tm.map es).rm = .map (es.map fun e => (e.1, e.2.rm)) := by
  rw [Tm.rm, List.attach_map_val (f := fun e : Str × Tm => (e.1, e.2.rm))]
theorem rm_d {sig : List (Str × Nat)} {ms : List Str} {t : Tm} (h : TOk sig ms t) : t.rm.d = t.d := by
  induction t using Tm.ind with
  | h t ih =>
    cases t with
    | node c ts =>
      rw [rm_node]
      unfold Rm.d Tm.d
      rw [Rm.ds_map, Tm.ds_map, List.map_map]
      have e : ts.map (Rm.d ∘ Tm.rm) = ts.map Tm.d := List.map_congr_left fun k hk => ih k hk (h.kid hk)
      rw [e]
    | map es =>
      rw [rm_map]
      unfold Rm.d Tm.d
      rw [Rm.es_map, Tm.es_map, List.map_map]
      have e : es.map ((fun e : Str × Rm => PyData.tuple [.str e.1, e.2.d]) ∘ fun e : Str × Tm => (e.1, e.2.rm)) = es.map Tm.ent := List.map_congr_left fun e he => by
        have hk : e.2 ∈ (Tm.map es).kids := List.mem_map.mpr ⟨e, he, rfl⟩
        show PyData.tuple [.str e.1, e.2.rm.d] = PyData.tuple [.str e.1, e.2.d]
        rw [ih e.2 hk (h.kid hk)]
      rw [e]
    | form f ts => exact h.at_.elim
    | int n => rw [Tm.rm]; rfl
    | name n => rw [Tm.rm]; rfl
    | addr n => rw [Tm.rm]; rfl
    | var n => rw [Tm.rm]; rfl
theorem sig_look {sh : Int} {sig : List (Str × Nat)} (ok : SigOk sh sig) {c : Str} {m : Nat} (h : (c, m) ∈ sig) : sig.lookup c = some m := by
  obtain ⟨j, hj, e⟩ := List.mem_iff_getElem.mp h
  have g : sig[j]? = some (c, m) := by rw [List.getElem?_eq_getElem hj, e]
  have h1 := sig_get ok g
  rw [valV_sig] at h1
  cases e2 : sig.lookup c with
  | none => rw [e2] at h1; cases h1
  | some k =>
    rw [e2] at h1
    have : V.int (k : Nat) = V.int (m : Nat) := Option.some.inj h1
    have := V.int.inj this
    rw [show k = m by omega]
/-- the tokens of a term -/
def FlT (sig : List (Str × Nat)) (t : Tm) (ks : List Tk) : Prop := ∀ n, t.ht ≤ n → Fl sig n t.rm ks
theorem fl_leaf {sig : List (Str × Nat)} {t : Tm} {ks : List Tk} (h : Leaf sig t.rm ks) : FlT sig t ks := fun n _ => by
  cases n with
  | zero => exact h
  | succ n => exact .inl h
theorem fl_node {sig : List (Str × Nat)} {c : Str} {ts : List Tm} {body : List Tk} (hl : sig.lookup c = some ts.length) (hb : ∀ n, (∀ k ∈ ts, k.ht ≤ n) → FlL (Fl sig n) (ts.map Tm.rm) body) : FlT sig (Tm.node c ts) (.sg "(" :: .word c :: (body ++ [.sg ")"])) := fun n hn => by
  have hp := (Tm.node c ts).ht_pos
  obtain ⟨m, rfl⟩ : ∃ m, n = m + 1 := ⟨n - 1, by omega⟩
  refine .inr (.inl ⟨c, ts.map Tm.rm, body, rm_node c ts, by rw [List.length_map]; exact hl, hb m fun k hk => ?_, rfl⟩)
  have := Tm.ht_kid (t := .node c ts) hk
  omega
theorem fl_map {sig : List (Str × Nat)} {es es' : List (Str × Tm)} {body : List Tk} (nd : (es.map Prod.fst).Nodup) (srt : PyProof.Rows.sortedS (es.map Prod.fst) = true) (pm : es'.Perm es) (hb : ∀ n, (∀ e ∈ es', e.2.ht ≤ n) → FlE (Fl sig n) (es'.map fun e => (e.1, e.2.rm)) body) : FlT sig (Tm.map es) (.sg "{" :: (body ++ [.sg "}"])) := fun n hn => by
  have hp := (Tm.map es).ht_pos
  obtain ⟨m, rfl⟩ : ∃ m, n = m + 1 := ⟨n - 1, by omega⟩
  have ek : ∀ l : List (Str × Tm), (l.map fun e => ((e.1, e.2.rm) : Str × Rm)).map (·.1) = l.map Prod.fst := fun l => by rw [List.map_map]; rfl
  have nd' : ((es'.map fun e => ((e.1, e.2.rm) : Str × Rm)).map (·.1)).Nodup := by rw [ek]; exact (pm.map Prod.fst).nodup_iff.mpr nd
  refine .inr (.inr ⟨es'.map fun e => (e.1, e.2.rm), body, ?_, nd', hb m fun e he => ?_, rfl⟩)
  · rw [rm_map]
    congr 1
    refine ents_of nd' ?_ ?_ fun z hz => ?_
    · rw [ek, ek]; exact (pm.map Prod.fst).symm
    · rw [ek]; exact sorted_pw srt
    · obtain ⟨e, he, rfl⟩ := List.mem_map.mp hz
      exact List.mem_map.mpr ⟨e, pm.mem_iff.mpr he, rfl⟩
  · have := Tm.ht_kid (t := .map es) (k := e.2) (List.mem_map.mpr ⟨e, pm.mem_iff.mp he, rfl⟩)
    omega
theorem fll_snoc {R : Rm → List Tk → Prop} : ∀ {us : List Rm} {b : List Tk} {t : Rm} {a : List Tk}, FlL R us b → R t a → FlL R (us ++ [t]) (b ++ a)
  | [], b, t, a, h, ha => by
    have : b = [] := h
    subst this
    exact ⟨a, [], (List.append_nil _).symm, ha, rfl⟩
  | u :: us, b, t, a, h, ha => by
    obtain ⟨x, y, rfl, h1, h2⟩ := h
    exact ⟨x, y ++ a, by rw [List.append_assoc], h1, fll_snoc h2 ha⟩
theorem fle_snoc {R : Rm → List Tk → Prop} : ∀ {us : List (Str × Rm)} {b : List Tk} {w : Str} {t : Rm} {a : List Tk}, FlE R us b → R t a → FlE R (us ++ [(w, t)]) (b ++ .name w :: a)
  | [], b, w, t, a, h, ha => by
    have : b = [] := h
    subst this
    exact ⟨a, [], by rw [List.append_nil]; rfl, ha, rfl⟩
  | (v, u) :: us, b, w, t, a, h, ha => by
    obtain ⟨x, y, rfl, h1, h2⟩ := h
    exact ⟨x, y ++ .name w :: a, by rw [List.cons_append, List.append_assoc], h1, fle_snoc h2 ha⟩
theorem take_sum {α : Type} (f : α → Nat) : ∀ (l : List α) (n : Nat), ((l.take n).map f).sum ≤ (l.map f).sum
  | [], n => by simp
  | a :: r, 0 => by simp
  | a :: r, n + 1 => by
    rw [List.take_succ_cons, List.map_cons, List.map_cons, List.sum_cons, List.sum_cons]
    have := take_sum f r n
    omega
theorem sumT_le {f : Tm → Nat} : ∀ {l : List Tm} {k : Tm}, k ∈ l → f k ≤ (l.map f).sum
  | a :: r, k, h => by
    show _ ≤ f a + (r.map f).sum
    rcases List.mem_cons.mp h with rfl | h
    · omega
    · have := sumT_le (f := f) h; omega
theorem kid_size {t k : Tm} (h : k ∈ t.kids) : k.size ≤ t.size := by
  have := sumT_le (f := Tm.size) h
  rw [Tm.size_eq t]; omega
end PK
namespace PK
open PySem L2 _root_.TL
/-! the canonical text -/
def glue : List (List Nat) → List Nat
  | [] => []
  | a :: r => a ++ r.flatMap (32 :: ·)
def entL (e : Str × List Nat) : List Nat := 39 :: (e.1.cps.toList ++ 32 :: e.2)
def nodeL (c : Str) : List (List Nat) → List Nat
  | [] => c.cps.toList
  | x :: xs => 40 :: (c.cps.toList ++ ((x :: xs).flatMap (32 :: ·) ++ [41]))
def mapL (es : List (Str × List Nat)) : List Nat := 123 :: (glue (es.map entL) ++ [125])
def Tm.cl (t : Tm) : List Nat := match t with
  | .int n => (txt n).cps.toList
  | .name s => 39 :: s.cps.toList
  | .addr n => 64 :: (txt n).cps.toList
  | .var s => 36 :: s.cps.toList
  | .node c ts => nodeL c (ts.attach.map fun k => k.1.cl)
  | .map es => mapL (es.attach.map fun e => (e.1.1, e.1.2.cl))
  | .form f ts => nodeL f.s (ts.attach.map fun k => k.1.cl)
termination_by sizeOf t
decreasing_by
  · have := List.sizeOf_lt_of_mem k.2; simp only [Tm.node.sizeOf_spec]; omega
  · have := List.sizeOf_lt_of_mem e.2
    have e2 : sizeOf e.1 = 1 + sizeOf e.1.1 + sizeOf e.1.2 := by cases e.1; rfl
    simp only [Tm.map.sizeOf_spec]; omega
  · have := List.sizeOf_lt_of_mem k.2; simp only [Tm.form.sizeOf_spec]; omega
theorem cl_form (f : Fm) (ts : List Tm) : (Tm.form f ts).cl = nodeL f.s (ts.map Tm.cl) := by
  rw [Tm.cl, List.attach_map_val (f := Tm.cl)]
theorem cl_node (c : Str) (ts : List Tm) : (Tm.node c ts).cl = nodeL c (ts.map Tm.cl) := by
  rw [Tm.cl, List.attach_map_val (f := Tm.cl)]
theorem cl_map (es : List (Str × Tm)) : (Tm.map es).cl = mapL (es.map fun e => (e.1, e.2.cl)) := by
  rw [Tm.cl, List.attach_map_val (f := fun e : Str × Tm => (e.1, e.2.cl))]
/-! joined texts -/
theorem join_flat : ∀ ss : List Str, (Str.join "" ss).cps.toList = ss.flatMap (fun s => s.cps.toList)
  | [] => rfl
  | [s] => by show s.cps.toList = s.cps.toList ++ []; rw [List.append_nil]
  | s :: t :: r => by
    have ih := join_flat (t :: r)
    have e : ("" : Str).cps.toList = [] := by decide +kernel
    show (s.cps ++ ("" : Str).cps ++ (Str.join "" (t :: r)).cps).toList = _
    rw [Array.toList_append, Array.toList_append, ih, e, List.append_nil]
    rfl
theorem txt_flat (ss : List Str) : (Txt.join "" ss).cps.toList = ss.flatMap fun s => s.cps.toList := by
  show (Builtin.Str.glued ("" : Str) ss).cps.toList = _
  rw [StrLaws.glued_eq_join]
  exact join_flat ss
theorem join_glue : ∀ ss : List Str, (Str.join " " ss).cps.toList = glue (ss.map fun s => s.cps.toList)
  | [] => rfl
  | [s] => by show s.cps.toList = s.cps.toList ++ []; rw [List.append_nil]
  | s :: t :: r => by
    have ih := join_glue (t :: r)
    have e : (" " : Str).cps.toList = [32] := by decide +kernel
    show (s.cps ++ (" " : Str).cps ++ (Str.join " " (t :: r)).cps).toList = _
    rw [Array.toList_append, Array.toList_append, ih, e, List.append_assoc]
    rfl
theorem txt_glue (ss : List Str) : (Txt.join " " ss).cps.toList = glue (ss.map fun s => s.cps.toList) := by
  show (Builtin.Str.glued (" " : Str) ss).cps.toList = _
  rw [StrLaws.glued_eq_join]
  exact join_glue ss
theorem str_of {a b : Str} (h : a.cps.toList = b.cps.toList) : a = b := by rw [← mk'_of a, h, mk'_of]
/-! tokens lie in it -/
def Opn (u : List Nat) : Prop := ∀ c ∈ u.head?, c ∉ OTH.cps.toList
def LTL (x : List Nat) (ts : List Tk) : Prop := ∀ u us, Opn u → Lays u us → Lays (x ++ u) (ts ++ us)
theorem opn_c {c : Nat} {u : List Nat} (h : c ∉ OTH.cps.toList) : Opn (c :: u) := fun d hd => by
  have : c = d := by simpa using hd
  rw [← this]; exact h
theorem opn_nil : Opn [] := fun c hc => by cases hc
theorem LTL.whole {x : List Nat} {ts : List Tk} (h : LTL x ts) : Lays x ts := by
  have := h [] [] opn_nil lays_nil
  rwa [List.append_nil, List.append_nil] at this
theorem ltl_ts {k : Tk} {x : Str} (h : TS k x) : LTL x.cps.toList [k] := fun u us hu l => by
  have := lays_tok h.pc (fun c hc => by
    have h1 := hu c hc
    have h2 : c ∉ DIGS.cps.toList := fun z => h1 (dig_oth c z)
    cases k <;> first | exact trivial | exact h1 | exact h2) l
  rw [h.tk] at this
  exact this
theorem c32 : (32 : Nat) ∈ SEP.cps.toList := by decide +kernel
theorem s41 : TS (.sg ")") ")" := ts_sign (s := 41) (by decide) (by decide +kernel)
theorem s40 : TS (.sg "(") "(" := ts_sign (s := 40) (by decide) (by decide +kernel)
theorem s123 : TS (.sg "{") "{" := ts_sign (s := 123) (by decide) (by decide +kernel)
theorem s125 : TS (.sg "}") "}" := ts_sign (s := 125) (by decide) (by decide +kernel)
theorem ltl_open {s : Nat} {x : Str} (hx : x.cps.toList = [s]) (hs : s ∈ ([40, 41, 123, 125] : List Nat)) {u : List Nat} {us : List Tk} (l : Lays u us) : Lays (s :: u) (.sg x :: us) := by
  have := lays_tok (piece_sign hs) (u := u) (fun _ _ => trivial) l
  rwa [tok_sign s hs, show mkS [s] = x by rw [← hx, mk'_of]] at this
theorem o41 (u : List Nat) : Opn (41 :: u) := opn_c (by decide +kernel)
theorem o125 (u : List Nat) : Opn (125 :: u) := opn_c (by decide +kernel)
theorem o32 (u : List Nat) : Opn (32 :: u) := opn_c (by decide +kernel)
/-- texts that follow a space each -/
theorem ltl_flat {α : Type} {f : α → List Nat} {g : α → List Tk → Prop} : ∀ {l : List α}, (∀ a ∈ l, ∃ ks, LTL (f a) ks ∧ g a ks) → ∃ rows : List (List Tk), rows.length = l.length ∧ (∀ (i : Nat) a, l[i]? = some a → ∃ r, rows[i]? = some r ∧ g a r) ∧
    ∀ u us, Opn u → Lays u us → Opn (l.flatMap (fun a => 32 :: f a) ++ u) ∧ Lays (l.flatMap (fun a => 32 :: f a) ++ u) (rows.flatten ++ us)
  | [], _ => ⟨[], rfl, fun (i : Nat) a h => (by rw [List.getElem?_nil] at h; cases h), fun u us hu l => ⟨hu, l⟩⟩
  | a :: l, h => by
    obtain ⟨ks, h1, h2⟩ := h a List.mem_cons_self
    obtain ⟨rows, e, hr, k⟩ := ltl_flat fun b hb => h b (List.mem_cons_of_mem _ hb)
    refine ⟨ks :: rows, by rw [List.length_cons, List.length_cons, e], fun i b hi => ?_, fun u us hu l0 => ?_⟩
    · cases i with
      | zero => cases hi; exact ⟨ks, rfl, h2⟩
      | succ i => exact hr i b hi
    · obtain ⟨k1, k2⟩ := k u us hu l0
      rw [List.flatMap_cons, List.flatten_cons, List.append_assoc, List.append_assoc]
      exact ⟨o32 _, lays_sep c32 (h1 _ _ k1 k2)⟩
def CTk (sig : List (Str × Nat)) (ws : List Str) (t : Tm) (ks : List Tk) : Prop := FlT sig t ks ∧ ∀ w, Tk.name w ∈ ks → w ∈ ws
theorem fll_rows {sig : List (Str × Nat)} {ws : List Str} {n : Nat} : ∀ {ts : List Tm} {rows : List (List Tk)}, rows.length = ts.length → (∀ (i : Nat) a, ts[i]? = some a → ∃ r, rows[i]? = some r ∧ CTk sig ws a r) → (∀ k ∈ ts, k.ht ≤ n) → FlL (Fl sig n) (ts.map Tm.rm) rows.flatten
  | [], [], _, _, _ => rfl
  | t :: ts, [], h, _, _ => by cases h
  | [], r :: rows, h, _, _ => by cases h
  | t :: ts, r :: rows, h, k, hn => by
    obtain ⟨r', e, h1⟩ := k 0 t rfl
    cases e
    exact ⟨r, rows.flatten, List.flatten_cons, h1.1 n (hn t List.mem_cons_self), fll_rows (by simpa using h) (fun i a hi => k (i + 1) a hi) fun x hx => hn x (List.mem_cons_of_mem _ hx)⟩
theorem rows_names {α : Type} {g : α → List Tk → Prop} {ws : List Str} {l : List α} {rows : List (List Tk)} (e : rows.length = l.length) (k : ∀ (i : Nat) a, l[i]? = some a → ∃ r, rows[i]? = some r ∧ g a r) (hg : ∀ a r, g a r → ∀ w, Tk.name w ∈ r → w ∈ ws) : ∀ w, Tk.name w ∈ rows.flatten → w ∈ ws := fun w hw => by
  obtain ⟨r, hr, hw⟩ := List.mem_flatten.mp hw
  obtain ⟨i, hi, rfl⟩ := List.mem_iff_getElem.mp hr
  obtain ⟨r', e1, h1⟩ := k i (l[i]'(by omega)) (List.getElem?_eq_getElem _)
  rw [List.getElem?_eq_getElem hi] at e1
  cases e1
  exact hg _ _ h1 w hw
/-- the tokens of an entry of a map -/
def CEk (sig : List (Str × Nat)) (ws : List Str) (e : Str × Tm) (ks : List Tk) : Prop := ∃ a, ks = .name e.1 :: a ∧ CTk sig ws e.2 a ∧ e.1 ∈ ws
theorem fle_rows {sig : List (Str × Nat)} {ws : List Str} {n : Nat} : ∀ {es : List (Str × Tm)} {rows : List (List Tk)}, rows.length = es.length → (∀ (i : Nat) a, es[i]? = some a → ∃ r, rows[i]? = some r ∧ CEk sig ws a r) → (∀ e ∈ es, e.2.ht ≤ n) → FlE (Fl sig n) (es.map fun e => (e.1, e.2.rm)) rows.flatten
  | [], [], _, _, _ => rfl
  | t :: ts, [], h, _, _ => by cases h
  | [], r :: rows, h, _, _ => by cases h
  | (w, t) :: ts, r :: rows, h, k, hn => by
    obtain ⟨r', e, a, rfl, h1, h2⟩ := k 0 (w, t) rfl
    cases e
    exact ⟨a, rows.flatten, List.flatten_cons, h1.1 n (hn (w, t) List.mem_cons_self), fle_rows (by simpa using h) (fun i a hi => k (i + 1) a hi) fun x hx => hn x (List.mem_cons_of_mem _ hx)⟩
theorem cl_lays {sig : List (Str × Nat)} {ws : List Str} {sh : Int} (ok : SigOk sh sig) {t : Tm} (h : TOk sig ws t) : ∃ ks, LTL t.cl ks ∧ CTk sig ws t ks := by
  induction t using Tm.ind with
  | h t ih =>
    have ha := h.at_
    have leaf : ∀ {k : Tk} {x : Str}, TS k x → t.cl = x.cps.toList → Leaf sig t.rm [k] → (∀ w, k = .name w → w ∈ ws) → ∃ ks, LTL t.cl ks ∧ CTk sig ws t ks := fun ts e lf nm =>
      ⟨_, by rw [e]; exact ltl_ts ts, fl_leaf lf, fun w hw => nm w (List.mem_singleton.mp hw).symm⟩
    cases t with
    | form f ts => exact ha.elim
    | int n => exact leaf (ts_int ha) (by rw [Tm.cl]) (by rw [Tm.rm]; rfl) (fun w e => nomatch e)
    | name s => exact leaf (ts_name ha.2) (by rw [Tm.cl, pfx_list (by decide +kernel : ("'" : Str).cps.toList = [39])]) (by rw [Tm.rm]; rfl) (fun w e => by cases e; exact ha.1)
    | addr n => exact leaf (ts_addr ha) (by rw [Tm.cl, pfx_list (by decide +kernel : ("@" : Str).cps.toList = [64])]) (by rw [Tm.rm]; rfl) (fun w e => nomatch e)
    | var s => exact leaf (ts_var ha.2) (by rw [Tm.cl, pfx_list (by decide +kernel : ("$" : Str).cps.toList = [36])]) (by rw [Tm.rm]; rfl) (fun w e => nomatch e)
    | node c ts =>
      have hl := sig_look ok ha.2.1
      cases ts with
      | nil => exact leaf (ts_word ha.1) (by rw [cl_node]; rfl) (by rw [rm_node]; exact ⟨rfl, hl⟩) (fun w e => nomatch e)
      | cons t0 tr =>
        obtain ⟨rows, e, hr, k⟩ := ltl_flat (f := Tm.cl) (g := CTk sig ws) (l := t0 :: tr) fun a hm => ih a hm (h.kid hm)
        refine ⟨.sg "(" :: .word c :: (rows.flatten ++ [.sg ")"]), fun u us hu l => ?_, fl_node hl fun n hn => fll_rows e hr hn, fun w hw => ?_⟩
        · rw [cl_node]
          show Lays (40 :: ((c.cps.toList ++ ((t0.cl :: tr.map Tm.cl).flatMap (32 :: ·) ++ [41])) ++ u)) _
          have e1 : (t0.cl :: tr.map Tm.cl).flatMap (32 :: ·) = (t0 :: tr).flatMap fun a => 32 :: a.cl := by
            rw [show t0.cl :: tr.map Tm.cl = (t0 :: tr).map Tm.cl from rfl, List.flatMap_map]
          rw [e1, List.append_assoc, List.append_assoc]
          have l1 := ltl_open (by decide +kernel : (")" : Str).cps.toList = [41]) (by decide) l
          obtain ⟨k1, k2⟩ := k (41 :: u) _ (o41 u) l1
          have l2 := ltl_ts (ts_word ha.1) _ _ k1 k2
          have l3 := ltl_open (by decide +kernel : ("(" : Str).cps.toList = [40]) (by decide) l2
          have e2 : (Tk.sg "(" :: .word c :: (rows.flatten ++ [.sg ")"])) ++ us = Tk.sg "(" :: ([.word c] ++ (rows.flatten ++ (.sg ")" :: us))) := by
            simp only [List.cons_append, List.append_assoc, List.nil_append]
          rw [e2]; exact l3
        · rcases List.mem_cons.mp hw with h1 | hw
          · cases h1
          rcases List.mem_cons.mp hw with h1 | hw
          · cases h1
          rcases List.mem_append.mp hw with h1 | h1
          · exact rows_names e hr (fun a r z => z.2) w h1
          · cases List.mem_singleton.mp h1
    | map es =>
      have rowE : ∀ e ∈ es, ∃ ks, LTL (entL (e.1, e.2.cl)) ks ∧ CEk sig ws e ks := fun e he => by
        have hk : e.2 ∈ (Tm.map es).kids := List.mem_map.mpr ⟨e, he, rfl⟩
        obtain ⟨ks, h1, h2⟩ := ih e.2 hk (h.kid hk)
        refine ⟨.name e.1 :: ks, fun u us hu l => ?_, ks, rfl, h2, (ha.2.1 e he).1⟩
        have l1 := h1 u us hu l
        have l2 := ltl_ts (ts_name (ha.2.1 e he).2) _ _ (o32 _) (lays_sep c32 l1)
        rw [pfx_list (by decide +kernel : ("'" : Str).cps.toList = [39])] at l2
        have e1 : entL (e.1, e.2.cl) ++ u = 39 :: e.1.cps.toList ++ 32 :: (e.2.cl ++ u) := by
          unfold entL
          simp only [List.cons_append, List.append_assoc]
        rw [e1]; exact l2
      have whole : ∃ rows : List (List Tk), rows.length = es.length ∧ (∀ (i : Nat) a, es[i]? = some a → ∃ r, rows[i]? = some r ∧ CEk sig ws a r) ∧ ∀ u us, Opn u → Lays u us → Lays (glue (es.map fun e => entL (e.1, e.2.cl)) ++ u) (rows.flatten ++ us) := by
        cases es with
        | nil => exact ⟨[], rfl, fun (i : Nat) a h => (by rw [List.getElem?_nil] at h; cases h), fun u us hu l => l⟩
        | cons e0 er =>
          obtain ⟨k0, h1, h2⟩ := rowE e0 List.mem_cons_self
          obtain ⟨rows, e, hr, k⟩ := ltl_flat (f := fun e : Str × Tm => entL (e.1, e.2.cl)) (g := CEk sig ws) (l := er) fun a hm => rowE a (List.mem_cons_of_mem _ hm)
          refine ⟨k0 :: rows, by rw [List.length_cons, List.length_cons, e], fun i a hi => ?_, fun u us hu l => ?_⟩
          · cases i with
            | zero => cases hi; exact ⟨k0, rfl, h2⟩
            | succ i => exact hr i a hi
          · obtain ⟨k1, k2⟩ := k u us hu l
            have := h1 _ _ k1 k2
            show Lays ((entL (e0.1, e0.2.cl) ++ (er.map fun e => entL (e.1, e.2.cl)).flatMap (32 :: ·)) ++ u) _
            rw [List.flatMap_map, List.append_assoc, List.flatten_cons, List.append_assoc]
            exact this
      obtain ⟨rows, e, hr, k⟩ := whole
      refine ⟨.sg "{" :: (rows.flatten ++ [.sg "}"]), fun u us hu l => ?_, fl_map ha.2.2.1 ha.2.2.2 (List.Perm.refl _) fun n hn => fle_rows e hr hn, fun w hw => ?_⟩
      · rw [cl_map]
        show Lays (123 :: ((glue ((es.map fun e => (e.1, e.2.cl)).map entL) ++ [125]) ++ u)) _
        rw [List.map_map, List.append_assoc]
        have l1 := ltl_open (by decide +kernel : ("}" : Str).cps.toList = [125]) (by decide) l
        have l2 := ltl_open (by decide +kernel : ("{" : Str).cps.toList = [123]) (by decide) (k (125 :: u) _ (o125 u) l1)
        have e2 : (Tk.sg "{" :: (rows.flatten ++ [.sg "}"])) ++ us = Tk.sg "{" :: (rows.flatten ++ (.sg "}" :: us)) := by
          simp only [List.cons_append, List.append_assoc, List.nil_append]
        rw [e2]; exact l2
      · rcases List.mem_cons.mp hw with h1 | hw
        · cases h1
        rcases List.mem_append.mp hw with h1 | h1
        · refine rows_names e hr (fun a r z w hw => ?_) w h1
          obtain ⟨b, rfl, z1, z2⟩ := z
          rcases List.mem_cons.mp hw with h | h
          · cases h; exact z2
          · exact z1.2 w h
        · cases List.mem_singleton.mp h1
/-! its length -/
def TLF (sig : List (Str × Nat)) (ms : List Str) : Tm → Prop
  | .form _ ts => ts ≠ [] ∧ ts.length ≤ 3
  | t => TL sig ms t
def FOk (sig : List (Str × Nat)) (ms : List Str) : Tm → Prop := Al (TLF sig ms)
theorem TOk.fok {sig : List (Str × Nat)} {ms : List Str} {t : Tm} (h : TOk sig ms t) : FOk sig ms t := by
  induction t using Tm.ind with
  | h t ih =>
    refine .mk ?_ fun k hk => ih k hk (h.kid hk)
    have h1 := h.at_
    cases t with
    | form f ts => exact h1.elim
    | _ => exact h1
theorem Fm.s_len (f : Fm) : f.s.cps.toList.length ≤ 12 := by cases f <;> decide +kernel
theorem flat_len {f : Tm → List Nat} {c : Nat} : ∀ {l : List Tm}, (∀ k ∈ l, (f k).length + 20 ≤ 40 * k.size) → (l.flatMap fun k => 32 :: f k).length ≤ (l.map Tm.size).sum * 40
  | [], _ => Nat.zero_le _
  | a :: r, h => by
    have h1 := h a List.mem_cons_self
    have h2 := flat_len (c := c) (l := r) fun k hk => h k (List.mem_cons_of_mem _ hk)
    rw [List.flatMap_cons, List.length_append, List.length_cons, List.map_cons, List.sum_cons]
    omega
theorem nodeL_len {c : Str} {ts : List Tm} (hc : c.cps.toList.length ≤ 12) (ih : ∀ k ∈ ts, k.cl.length + 20 ≤ 40 * k.size) : (nodeL c (ts.map Tm.cl)).length + 20 ≤ 40 * (1 + (ts.map Tm.size).sum) := by
  cases ts with
  | nil => show c.cps.toList.length + 20 ≤ _; omega
  | cons t0 tr =>
    have hf := flat_len (f := Tm.cl) (c := 0) (l := t0 :: tr) ih
    show (40 :: (c.cps.toList ++ (((t0 :: tr).map Tm.cl).flatMap (32 :: ·) ++ [41]))).length + 20 ≤ _
    rw [List.flatMap_map, List.length_cons, List.length_append, List.length_append, List.length_singleton]
    omega
theorem cl_len {sig : List (Str × Nat)} {ws : List Str} {t : Tm} (h : FOk sig ws t) : t.cl.length + 20 ≤ 40 * t.size := by
  induction t using Tm.ind with
  | h t ih =>
    have ha := h.at_
    have hp := t.size_pos
    have tl16 : ∀ {n : Int}, -1000000000000000 < n ∧ n < 1000000000000000 → (txt n).cps.toList.length ≤ 16 := fun h => by rw [← len_list]; exact txt_len h
    have w12 : ∀ {x : Str}, Wd x → x.cps.toList.length ≤ 12 := fun h => by rw [← len_list]; exact h.hi
    cases t with
    | form f ts =>
      have hs : (Tm.form f ts).size = 1 + (ts.map Tm.size).sum := Tm.size_eq _
      have := nodeL_len f.s_len (ts := ts) fun k hk => ih k hk (h.kid hk)
      rw [cl_form]; omega
    | int n => have := tl16 ha; rw [Tm.cl]; omega
    | name s => have := w12 ha.2; rw [Tm.cl, List.length_cons]; omega
    | addr n => have := tl16 (n := n) ⟨by have := ha.1; omega, by have := ha.2; omega⟩; rw [Tm.cl, List.length_cons]; omega
    | var s => have := w12 ha.2; rw [Tm.cl, List.length_cons]; omega
    | node c ts =>
      have hs : (Tm.node c ts).size = 1 + (ts.map Tm.size).sum := Tm.size_eq _
      have := nodeL_len (w12 (show Wd c from ha.1)) (ts := ts) fun k hk => ih k hk (h.kid hk)
      rw [cl_node]; omega
    | map es =>
      have hs : (Tm.map es).size = 1 + ((es.map Prod.snd).map Tm.size).sum := Tm.size_eq _
      have hf : ∀ l : List (Str × Tm), (∀ e ∈ l, e ∈ es) → (l.flatMap fun e => 32 :: entL (e.1, e.2.cl)).length ≤ ((l.map Prod.snd).map Tm.size).sum * 40 := by
        intro l
        induction l with
        | nil => intro _; exact Nat.zero_le _
        | cons e r ihl =>
          intro hm
          have he := hm e List.mem_cons_self
          have hk : e.2 ∈ (Tm.map es).kids := List.mem_map.mpr ⟨e, he, rfl⟩
          have h1 := ih e.2 hk (h.kid hk)
          have h2 := ihl fun x hx => hm x (List.mem_cons_of_mem _ hx)
          have h3 := w12 (ha.2.1 e he).2
          rw [List.flatMap_cons, List.length_append, List.map_cons, List.map_cons, List.sum_cons]
          have : (32 :: entL (e.1, e.2.cl)).length ≤ e.2.cl.length + 15 := by
            show (e.1.cps.toList ++ 32 :: e.2.cl).length + 1 + 1 ≤ _
            rw [List.length_append, List.length_cons]; omega
          omega
      have hg := hf es fun _ h => h
      have hgl : (glue (es.map fun e => entL (e.1, e.2.cl))).length ≤ ((es.map Prod.snd).map Tm.size).sum * 40 := by
        refine Nat.le_trans ?_ hg
        cases es with
        | nil => exact Nat.le_refl _
        | cons e0 er =>
          show (entL (e0.1, e0.2.cl) ++ (er.map fun e => entL (e.1, e.2.cl)).flatMap (32 :: ·)).length ≤ _
          rw [List.flatMap_map, List.flatMap_cons, List.length_append, List.length_append, List.length_cons]
          omega
      rw [cl_map]
      show (123 :: (glue ((es.map fun e => (e.1, e.2.cl)).map entL) ++ [125])).length + 20 ≤ _
      rw [List.map_map, List.length_cons, List.length_append, List.length_singleton]
      have : (glue (es.map (entL ∘ fun e => (e.1, e.2.cl)))).length = (glue (es.map fun e => entL (e.1, e.2.cl))).length := rfl
      omega
end PK
namespace PK
open PySem L2 _root_.TL
/-! writing -/
inductive Pc where
  | s (x : Str)
  | t (k : Tm)
def Pc.d : Pc → PyData
  | .s x => .str x
  | .t k => k.d
def Pc.cl : Pc → List Nat
  | .s x => x.cps.toList
  | .t k => k.cl
def Pc.w : Pc → Nat
  | .s _ => 1
  | .t k => 5 * k.size - 2
def entP (e : Str × Tm) : List Pc := [.s ("'" ++ e.1 ++ " "), .t e.2]
def rowsP : List (Str × Tm) → List Pc
  | [] => []
  | e :: r => entP e ++ r.flatMap fun e => .s " " :: entP e
def nodeP (c : Str) : List Tm → List Pc
  | [] => [.s c]
  | t :: ts => .s ("(" ++ c) :: ((t :: ts).flatMap (fun k => [.s " ", .t k]) ++ [.s ")"])
def pcs : Tm → List Pc
  | .int n => [.s (txt n)]
  | .name s => [.s ("'" ++ s)]
  | .addr n => [.s ("@" ++ txt n)]
  | .var s => [.s ("$" ++ s)]
  | .node c ts => nodeP c ts
  | .form f ts => nodeP f.s ts
  | .map es => .s "{" :: (rowsP es ++ [.s "}"])
structure TxtW (K : PySem.W.Frag) (mg : Str → Option Value) (aS CL CP : Addr) : Prop extends TxtR K mg aS CL CP where
  z_enumerate : mg "enumerate" = none
  z_max : mg "max" = none
def spDec (n : Nat) : Sp := fun vs H Q _ => ∃ m : Int, vs = [.int m] ∧ -1000000000000000 < m ∧ m < 1000000000000000 ∧ 1 ≤ n ∧ (m < 0 → 2 ≤ n) ∧ ∀ H', Same H H' → Q (.str (txt m)) H'
def spPcs (K : PySem.W.Frag) : Sp := fun vs H Q _ => ∃ (v : V) (t : Tm) (sig : List (Str × Nat)) (ws : List Str), vs = [v] ∧ Dt K H v t.d ∧ FOk sig ws t ∧ ∀ (H' : Hp) (p : Addr) (xs : List V), Same H H' → H p = none → H' p = some (.lst xs) → DtAll K H' xs ((pcs t).map Pc.d) → Q (.ref p) H'
def spPcsM (K : PySem.W.Frag) : Sp := fun vs H Q _ => ∃ (v : V) (es : List (Str × Tm)) (sig : List (Str × Nat)) (ws : List Str), vs = [v] ∧ Dt K H v (Tm.map es).d ∧ FOk sig ws (.map es) ∧ ∀ (H' : Hp) (p : Addr) (xs : List V), Same H H' → H p = none → H' p = some (.lst xs) → DtAll K H' xs ((pcs (.map es)).map Pc.d) → Q (.ref p) H'
def spWrite (K : PySem.W.Frag) : Sp := fun vs H Q _ => ∃ (v : V) (t : Tm) (sig : List (Str × Nat)) (ws : List Str), vs = [v] ∧ Dt K H v t.d ∧ FOk sig ws t ∧ t.size ≤ 10000 ∧ ∀ (H' : Hp) (x : Str), Same H H' → x.cps.toList = t.cl → Q (.str x) H'
def spText (K : PySem.W.Frag) (n : Nat) : Sp := fun vs H Q _ => ∃ (v : V) (t : Tm) (sig : List (Str × Nat)) (ws : List Str), vs = [v] ∧ Dt K H v t.d ∧ FOk sig ws t ∧ t.size ≤ 10000 ∧ t.ht ≤ n ∧ ∀ (H' : Hp) (x : Str), Same H H' → x.cps.toList = t.cl → Q (.str x) H'
section
variable {P : Program} {w : World} {K : PySem.W.Frag} {mg : Str → Option Value} {base : Heap} {aS CL CP : Addr}
abbrev s_decimal : Stmt := topS 39
theorem sc_decimal : FnScope ["number", "chunks", "low"] ["number"] (defScope s_decimal) := ⟨rfl, rfl, rfl, by decide +kernel, rfl, by decide +kernel, by decide +kernel⟩
-- slots: 0:number 1:chunks 2:low
abbrev s_pieces_of_map : Stmt := topS 38
theorem sc_pieces_of_map : FnScope ["term", "pieces", "at", "word", "part"] ["term"] (defScope s_pieces_of_map) := ⟨rfl, rfl, rfl, by decide +kernel, rfl, by decide +kernel, by decide +kernel⟩
-- slots: 0:term 1:pieces 2:at 3:word 4:part
abbrev s_pieces : Stmt := topS 37
theorem sc_pieces : FnScope ["term", "head", "pieces", "part"] ["term"] (defScope s_pieces) := ⟨rfl, rfl, rfl, by decide +kernel, rfl, by decide +kernel, by decide +kernel⟩
-- slots: 0:term 1:head 2:pieces 3:part
abbrev s_write_term : Stmt := topS 36
theorem sc_write_term : FnScope ["term", "written", "waiting", "piece"] ["term"] (defScope s_write_term) := ⟨rfl, rfl, rfl, by decide +kernel, rfl, by decide +kernel, by decide +kernel⟩
-- slots: 0:term 1:written 2:waiting 3:piece
theorem ok_dec {n : Nat} {f : Addr} {fd : FuncData} (F : Fun K "_decimal" "_decimal" s_decimal f fd) (T : TxtW K mg aS CL CP) (C_decimal : C8.Cal P w K mg base n "_decimal" (spDec n) []) : FnOk P w K mg base CX0 (n + 1) f fd ["number"] (spDec (n + 1)) := by
  refine F.ok sc_decimal (fun vs H Q E h => ?_) (fun cdv A outer s H vs Q E hr h => ?_)
  · obtain ⟨_, rfl, _⟩ := h
    rfl
  obtain ⟨m, rfl, h1, h2, h3, h4, q⟩ := h
  refine ⟨_, (pss_cons (ps_if (pt_cmpR op_lt (pv 0) pe_int (nomark _)) (pss_one (ps_ret (pe_op op_add_str pe_str (C8.pe_c C_decimal hr (by omega) rfl (pa_cons (pe_un un_neg (pv 0)) pa_nil))))) pss_nil)
    (pss_cons (ps_set (i := 1) sc_decimal.nd rfl (Or.inl rfl) (pe_lst pa_nil))
    (pss_cons (ps_while PassesOwn.never (pt_cmpR op_ge (pv 0) (pe_op op_pow pe_int pe_int) (nomark _)) (pss_cons ps_never (pss_one ps_never)))
    (pss_cons (ps_expr (pe_bm PySem.F.plainAttrs_list PySem.F.slot_list_append PySem.F.type_list_append mt_append (pv 1) (pa_cons (pe_callTy call_str_int (by rfl) T.z_str (by decide +kernel) (pa_cons (pv 0) pa_nil)) pa_nil)))
    (pss_one (ps_ret (pe_join pe_str (pe_revL (pv 1))))))))), ?_⟩
  refine ⟨_, rfl, _, _, rfl, rfl, _, rfl, ite2 (fun z => ?_) (fun z => ?_)⟩
  · have hz : m < 0 := of_decide_eq_true z
    have h5 := h4 hz
    obtain ⟨k, rfl⟩ : ∃ k : Nat, m = -(k : Int) := ⟨m.natAbs, by omega⟩
    have e1 : txt (-(-(k : Int))) = txt (k : Nat) := by rw [Int.neg_neg]
    have e2 : ("-" : Str) ++ txt (k : Nat) = txt (-(k : Int)) := str_of (by rw [pfx_list (by decide +kernel : ("-" : Str).cps.toList = [45]), txt_nat, txt_neg (by omega)])
    refine ⟨_, rfl, _, rfl, _, rfl, by omega, by omega, by omega, fun h => by omega, fun H1 s1 => ⟨_, _, rfl, rfl, ?_, ?_⟩⟩
    · have := txt_len (n := -(-(k : Int))) ⟨by omega, by omega⟩
      exact small (by show 1 + (txt (-(-(k : Int)))).length ≤ _; omega)
    · show Q (.str (("-" : Str) ++ txt (-(-(k : Int))))) H1
      rw [e1, e2]
      exact q H1 s1
  · have hz : 0 ≤ m := by
      by_cases h : m < 0
      · exact absurd (decide_eq_true h) z
      · omega
    refine ⟨small (by show 0 ≤ _; decide), fun p hp => ?_⟩
    refine ⟨fun k σ H' => k = 0 ∧ σ = [some (.int m), some (.ref p), none] ∧ H' = upd H p (.lst []), ⟨0, rfl, rfl, rfl⟩, ?_⟩
    rintro k σ H1 ⟨rfl, rfl, rfl⟩
    have p64 : CPow 10 64 := ⟨by decide, by decide, by decide⟩
    refine ⟨_, rfl, _, _, rfl, rfl, p64, _, _, rfl, rfl, _, rfl, ite2 (fun z => ?_) (fun z => ?_)⟩
    · have : (10 : Int) ^ (64 : Int).toNat ≤ m := of_decide_eq_true z
      have e : (10 : Int) ^ (64 : Int).toNat = 10000000000000000000000000000000000000000000000000000000000000000 := by decide +kernel
      rw [e] at this; omega
    have b := txt_len (n := m) ⟨by omega, by omega⟩
    refine ⟨_, rfl, .inl ⟨rfl, _, SqL.of upd_same⟩, _, rfl, _, rfl, log_small ⟨by omega, by omega⟩, p, [], _, rfl, rfl, upd_same, by show 0 < _; decide, ?_⟩
    refine ⟨⟨_, rfl⟩, _, rfl, p, _, rfl, SqL.of upd_same, fun p2 hp2 => ⟨"", p2, [txt m], rfl, rfl, .inl (SqL.of upd_same), by show (txt m).length + 0 + 1 * 0 ≤ _; omega, ?_⟩⟩
    have e : Txt.join "" [txt m] = txt m := str_of (by rw [txt_flat]; exact List.append_nil _)
    rw [e]
    have s1 : Same H (upd (upd H p (.lst [])) p (.lst ([] ++ [.str (txt m)]))) := Same.upd (same_new hp) hp
    exact q _ (s1.trans (same_new hp2))
/-- the rows of a tuple that an expression yields, numbered -/
theorem for_enumE {K : PySem.W.Frag} {e : TE} {p : Addr} {xs : List V} {g : L2.TG} {tb : L2.TS} {D : Ends} {σ : L2.St} {H0 H : Hp} (hq : SqT K H0 p xs) (he : ∀ Q : VK, Q (.ref p) H → e σ H Q) (Pv : Nat → L2.St → Hp → Prop) (h0 : Pv 0 σ H)
    (hG : ∀ i σ H', i ≤ xs.length → Pv i σ H' → Same H0 H') (hs : ∀ i x σ H T, xs[i]? = some x → Pv i σ H → H T = none → g (.ref T) σ (upd H T (.tup [.int (i : Nat), x])) fun σ2 H2 => tb { D with nx := Pv (i + 1), ct := Pv (i + 1), bk := D.nx } σ2 H2)
    (hd : ∀ σ H, Pv xs.length σ H → D.nx σ H) : tFor (fun σ H R => iEnum K (tCons e tNil) σ H R ∨ PKR.iEnumT K (tCons e tNil) σ H R) g tb D σ H := by
  refine .inr (he _ ⟨_, _, rfl, Same.seqT (hG 0 σ H (Nat.zero_le _) h0) hq, for_it (walk_enumT (xs := xs)) Pv h0 (fun j σ H' hj k => Same.seqT (hG j σ H' hj k) hq) (fun j x σ H' H2 hj k y => ?_) hd⟩)
  obtain ⟨T, a, b, rfl, hT, rfl, ea, eb⟩ := y
  cases ea
  exact hs j b σ H' T eb k hT
theorem rowsP_snoc : ∀ (l : List (Str × Tm)) (e : Str × Tm), rowsP (l ++ [e]) = rowsP l ++ ((if l.isEmpty then [] else [Pc.s " "]) ++ entP e)
  | [], e => by show entP e ++ [] = [] ++ ([] ++ entP e); rw [List.append_nil]; rfl
  | a :: r, e => by
    show entP a ++ (r ++ [e]).flatMap _ = entP a ++ r.flatMap _ ++ ([Pc.s " "] ++ entP e)
    rw [List.flatMap_append, List.append_assoc]
    simp only [List.flatMap_cons, List.flatMap_nil, List.append_nil, List.cons_append, List.nil_append]
theorem entP_len (l : List (Str × Tm)) : (l.flatMap fun e => Pc.s " " :: entP e).length = 3 * l.length := by
  induction l with
  | nil => rfl
  | cons a r ih => rw [List.flatMap_cons, List.length_append, ih]; show 3 + 3 * r.length = 3 * (r.length + 1); omega
theorem rowsP_len (l : List (Str × Tm)) : (rowsP l).length ≤ 3 * l.length := by
  cases l with
  | nil => exact Nat.le_refl _
  | cons a r =>
    show (entP a ++ r.flatMap _).length ≤ _
    rw [List.length_append, entP_len]
    show 2 + 3 * r.length ≤ 3 * (r.length + 1); omega
theorem ok_pcsm {f : Addr} {fd : FuncData} (F : Fun K "_pieces_of_map" "_pieces_of_map" s_pieces_of_map f fd) (T : TxtW K mg aS CL CP) : FnOk P w K mg base CX0 1 f fd ["term"] (spPcsM K) := by
  refine F.ok sc_pieces_of_map (fun vs H Q E h => ?_) (fun cdv A outer s H vs Q E hr h => ?_)
  · obtain ⟨_, _, _, _, rfl, _⟩ := h
    rfl
  obtain ⟨v, es, sig, ws, rfl, hv, tok, q⟩ := h
  refine ⟨_, (pss_cons (ps_set (i := 1) sc_pieces_of_map.nd rfl (Or.inl rfl) (pe_lst (pa_cons pe_str pa_nil)))
    (pss_cons (ps_for PassesOwn.never rfl (PKR.pi_or (pi_enum (by rfl) T.z_enumerate (pa_cons (pe_ix ix_tup (pv 0) pe_int (fun _ _ => rfl)) pa_nil)) (PKR.pi_enumT (by rfl) T.z_enumerate (pa_cons (pe_ix ix_tup (pv 0) pe_int (fun _ _ => rfl)) pa_nil))) (pg_tup (by rfl) (pgs_cons (pg_name (i := 2) sc_pieces_of_map.nd rfl (Or.inl rfl)) (pgs_cons (pg_tup (by rfl) (pgs_cons (pg_name (i := 3) sc_pieces_of_map.nd rfl (Or.inl rfl)) (pgs_cons (pg_name (i := 4) sc_pieces_of_map.nd rfl (Or.inl rfl)) pgs_nil))) pgs_nil))) (C8.pss_cut (ps_if (pt_truth (pv 2) (by intro _; rfl)) (pss_one (ps_expr (pe_bm PySem.F.plainAttrs_list PySem.F.slot_list_append PySem.F.type_list_append mt_append (pv 1) (pa_cons pe_str pa_nil)))) pss_nil)
    (pss_one (ps_expr (pe_bm PySem.F.plainAttrs_list PySem.F.slot_list_extend PySem.F.type_list_extend mt_extend (pv 1) (pa_cons (pe_lst (pa_cons (pe_op op_add_str (pe_op op_add_str pe_str (pv 3)) pe_str) (pa_cons (pv 4) pa_nil))) pa_nil))))))
    (pss_cons (ps_expr (pe_bm PySem.F.plainAttrs_list PySem.F.slot_list_append PySem.F.type_list_append mt_append (pv 1) (pa_cons pe_str pa_nil)))
    (pss_one (ps_ret (pv 1)))))), ?_⟩
  have ha := tok.at_
  unfold Tm.d at hv
  obtain ⟨a, x, y, rfl, hs, d1, d2⟩ := Dt.t2 hv
  obtain rfl := d1.s
  obtain ⟨b, ys, rfl, hb, hys⟩ := Dt.tn d2
  rw [Tm.es_map] at hys
  have ly : ys.length = es.length := by rw [hys.lenD, List.length_map]
  have hl : es.length ≤ 8 := ha.1
  refine ⟨small (by show 1 ≤ _; decide), fun p hp => ?_⟩
  have s0 := same_new (o := .lst [.str "{"]) hp
  refine for_enumE (H0 := H) (p := b) (xs := ys) hb (fun Q k => vTx rfl (Same.seqT s0 hs) (atI_nat (j := 1) rfl) k)
    (fun i σ H' => ∃ (xs : List V) (o2 o3 o4 : Option V), σ = [some (.ref a), some (.ref p), o2, o3, o4] ∧ Same H H' ∧ H' p = some (.lst xs) ∧ DtAll K H' xs ((Pc.s "{" :: rowsP (es.take i)).map Pc.d)) ⟨_, none, none, none, rfl, s0, upd_same, .cons (.str _) .nil⟩ (fun i σ H' _ z => by obtain ⟨_, _, _, _, _, z, _⟩ := z; exact z) (fun i x σ H' T0 hx z hT => ?_) (fun σ H' z => ?_)
  · obtain ⟨xs, o2, o3, o4, rfl, sm, hp', dxs⟩ := z
    have hi : i < es.length := by rw [← ly]; exact (List.getElem?_eq_some_iff.mp hx).1
    obtain ⟨d, e1, dx⟩ := hys.getX hx
    rw [List.getElem?_map, List.getElem?_eq_getElem hi] at e1
    obtain rfl : Tm.ent es[i] = d := Option.some.inj e1
    have hmem : es[i] ∈ es := List.getElem_mem hi
    have wd := (ha.2.1 _ hmem).2
    have eT : es.take (i + 1) = es.take i ++ [es[i]] := by rw [List.take_add_one, List.getElem?_eq_getElem hi]; rfl
    generalize es[i] = en at dx hmem wd eT
    obtain ⟨wn, te⟩ := en
    have dx : Dt K H x (PyData.tuple [.str wn, te.d]) := dx
    obtain ⟨ea, u1, u2, rfl, hse, j1, j2⟩ := Dt.t2 dx
    obtain rfl := j1.s
    have npT : p ≠ T0 := ne_of_none hp' hT
    have smT := sm.trans (same_new (o := .tup [.int (i : Nat), .ref ea]) hT)
    have hpT : (upd H' T0 (.tup [.int (i : Nat), .ref ea])) p = some (.lst xs) := by rw [upd_ne npT]; exact hp'
    have dT : DtAll K (upd H' T0 (.tup [.int (i : Nat), .ref ea])) xs ((Pc.s "{" :: rowsP (es.take i)).map Pc.d) := dxs.same (same_new hT)
    have hsT := Same.seqT smT hse
    have jT := j2.same smT
    have hTT : SqT K (upd H' T0 (.tup [.int (i : Nat), .ref ea])) T0 [.int (i : Nat), .ref ea] := SqT.of upd_same
    generalize upd H' T0 (.tup [.int (i : Nat), .ref ea]) = H2 at smT hpT dT hsT jT hTT
    have lx : xs.length ≤ 100 := by
      have h1 := dT.lenD
      have h2 := rowsP_len (es.take i)
      rw [List.length_map, List.length_cons] at h1
      have h3 : (es.take i).length ≤ 8 := by rw [List.length_take]; omega
      omega
    refine ⟨T0, _, rfl, hTT, rfl, _, _, rfl, _, _, rfl, ea, _, rfl, hsT, rfl, _, _, rfl, _, _, rfl, rfl, rfl, ?_⟩
    refine ⟨fun σ' H' => σ' = [some (.ref a), some (.ref p), some (.int (i : Nat)), some (.str wn), some u2] ∧ Same H H' ∧ Dt K H' u2 te.d ∧ ∃ ys, ys.length ≤ 101 ∧ H' p = some (.lst ys) ∧ DtAll K H' ys ((Pc.s "{" :: (rowsP (es.take i) ++ (if (es.take i).isEmpty then [] else [Pc.s " "]))).map Pc.d), ?_, ?_⟩
    · have eie : (es.take i).isEmpty = !((i : Int) != 0) := by
        cases i with
        | zero => rfl
        | succ i => cases es with
          | nil => exact absurd hi (by simp)
          | cons _ _ => rfl
      refine ⟨_, rfl, _, rfl, ite2 (fun z => ?_) (fun z => ?_)⟩
      · refine ⟨_, rfl, .inl ⟨rfl, _, SqL.of hpT⟩, p, xs, _, rfl, rfl, hpT, Nat.lt_of_le_of_lt lx (by decide), rfl, Same.upd smT hp, jT.updL hpT, _, ?_, upd_same, ?_⟩
        · rw [List.length_append]; exact Nat.succ_le_succ lx
        · rw [eie, z]
          have := DtAll.append (dT.upd (us := xs ++ [.str " "]) hpT) (DtAll.cons (Dt.str (K := K) (H := upd H2 p (.lst (xs ++ [.str " "]))) " ") .nil)
          rw [← List.cons_append, List.map_append]
          exact this
      · have z : ((i : Int) != 0) = false := by cases h : ((i : Int) != 0) with
          | true => exact absurd h z
          | false => rfl
        refine ⟨rfl, smT, jT, xs, by omega, hpT, ?_⟩
        rw [eie, z]
        show DtAll K H2 xs ((Pc.s "{" :: (rowsP (es.take i) ++ [])).map Pc.d)
        rw [List.append_nil]; exact dT
    · rintro σ' H3 ⟨rfl, s3, j3, ys3, l3, hp3, d3⟩
      have wl : wn.length ≤ 12 := wd.hi
      refine ⟨_, rfl, .inl ⟨rfl, _, SqL.of hp3⟩, _, rfl, _, _, rfl, rfl, small (by show 1 + wn.length ≤ _; omega), _, _, rfl, rfl, small (by rw [Str.length_append]; show 1 + wn.length + 1 ≤ _; omega), _, rfl, small (by show 2 ≤ _; decide), fun q1 hq1 => ?_⟩
      have npq : p ≠ q1 := ne_of_none hp3 hq1
      have s4 := s3.trans (same_new (o := .lst [.str ("'" ++ wn ++ " "), u2]) hq1)
      have hp4 : (upd H3 q1 (.lst [.str ("'" ++ wn ++ " "), u2])) p = some (.lst ys3) := by rw [upd_ne npq]; exact hp3
      refine ⟨p, q1, _, _, rfl, rfl, hp4, upd_same, small (by show ys3.length + 2 ≤ _; omega), _, _, _, _, rfl, Same.upd s4 hp, upd_same, ?_⟩
      rw [eT, rowsP_snoc, ← List.append_assoc, ← List.cons_append, List.map_append]
      refine DtAll.append ((d3.same (same_new hq1)).upd hp4) ?_
      exact .cons (.str _) (.cons ((j3.same (same_new hq1)).updL hp4) .nil)
  · obtain ⟨xs, o2, o3, o4, rfl, sm, hp', dxs⟩ := z
    rw [ly, List.take_length] at dxs
    have lx : xs.length ≤ 100 := by
      have h1 := dxs.lenD
      have h2 := rowsP_len es
      rw [List.length_map, List.length_cons] at h1
      omega
    refine ⟨_, rfl, .inl ⟨rfl, _, SqL.of hp'⟩, p, xs, _, rfl, rfl, hp', Nat.lt_of_le_of_lt lx (by decide), _, rfl, q _ p _ (Same.upd sm hp) hp upd_same ?_⟩
    have := DtAll.append (dxs.upd (us := xs ++ [.str "}"]) hp') (DtAll.cons (Dt.str (K := K) (H := upd H' p (.lst (xs ++ [.str "}"]))) "}") .nil)
    rw [show pcs (.map es) = (Pc.s "{" :: rowsP es) ++ [Pc.s "}"] from rfl, List.map_append]
    exact this
theorem ok_pcs {f : Addr} {fd : FuncData} (F : Fun K "_pieces" "_pieces" s_pieces f fd) (T : TxtW K mg aS CL CP) (C_decimal : C8.Cal P w K mg base 2 "_decimal" (spDec 2) []) (C_children : C8.Cal P w K mg base 1 "children" (spKidsV K) []) (C_pieces_of_map : C8.Cal P w K mg base 1 "_pieces_of_map" (spPcsM K) []) : FnOk P w K mg base CX0 3 f fd ["term"] (spPcs K) := by
  refine F.ok sc_pieces (fun vs H Q E h => ?_) (fun cdv A outer s H vs Q E hr h => ?_)
  · obtain ⟨_, _, _, _, rfl, _⟩ := h
    rfl
  obtain ⟨v, t, sig, ws, rfl, hv, tok, q⟩ := h
  refine ⟨_, (pss_cons (ps_if (pt_cmpR op_eq (pe_ix ix_tup (pv 0) pe_int (fun _ _ => rfl)) pe_str (nomark _)) (pss_one (ps_ret (pe_lst (pa_cons (C8.pe_c C_decimal hr (by decide) rfl (pa_cons (pe_ix ix_tup (pv 0) pe_int (fun _ _ => rfl)) pa_nil)) pa_nil)))) pss_nil)
    (pss_cons (ps_if (pt_cmpR op_eq (pe_ix ix_tup (pv 0) pe_int (fun _ _ => rfl)) pe_str (nomark _)) (pss_one (ps_ret (pe_lst (pa_cons (pe_op op_add_str pe_str (C8.pe_c C_decimal hr (by decide) rfl (pa_cons (pe_ix ix_tup (pv 0) pe_int (fun _ _ => rfl)) pa_nil))) pa_nil)))) pss_nil)
    (pss_cons (ps_if (pt_cmpR op_eq (pe_ix ix_tup (pv 0) pe_int (fun _ _ => rfl)) pe_str (nomark _)) (pss_one (ps_ret (pe_lst (pa_cons (pe_op op_add_str pe_str (pe_ix ix_tup (pv 0) pe_int (fun _ _ => rfl))) pa_nil)))) pss_nil)
    (pss_cons (ps_if (pt_cmpR op_eq (pe_ix ix_tup (pv 0) pe_int (fun _ _ => rfl)) pe_str (nomark _)) (pss_one (ps_ret (pe_lst (pa_cons (pe_op op_add_str pe_str (pe_ix ix_tup (pv 0) pe_int (fun _ _ => rfl))) pa_nil)))) pss_nil)
    (pss_cons (ps_if (pt_cmpR op_eq (pe_ix ix_tup (pv 0) pe_int (fun _ _ => rfl)) pe_str (nomark _)) (pss_one (ps_ret (C8.pe_c C_pieces_of_map hr (by decide) rfl (pa_cons (pv 0) pa_nil)))) pss_nil)
    (pss_cons (ps_set (i := 1) sc_pieces.nd rfl (Or.inl rfl) (pe_ifExp (pt_cmpR op_eq (pe_ix ix_tup (pv 0) pe_int (fun _ _ => rfl)) pe_str (nomark _)) (pe_ix ix_tup (pv 0) pe_int (fun _ _ => rfl)) (pe_ix ix_tup (pv 0) pe_int (fun _ _ => rfl))))
    (pss_cons (ps_if (pt_not (pt_truth (C8.pe_c C_children hr (by decide) rfl (pa_cons (pv 0) pa_nil)) (by intro _; rfl))) (pss_one (ps_ret (pe_lst (pa_cons (pv 1) pa_nil)))) pss_nil)
    (pss_cons (ps_set (i := 2) sc_pieces.nd rfl (Or.inl rfl) (pe_lst (pa_cons (pe_op op_add_str pe_str (pv 1)) pa_nil)))
    (pss_cons (ps_for PassesOwn.never rfl (pi_tup (C8.pe_c C_children hr (by decide) rfl (pa_cons (pv 0) pa_nil))) (pg_name (i := 3) sc_pieces.nd rfl (Or.inl rfl)) (pss_one (ps_expr (pe_bm PySem.F.plainAttrs_list PySem.F.slot_list_extend PySem.F.type_list_extend mt_extend (pv 2) (pa_cons (pe_lst (pa_cons pe_str (pa_cons (pv 3) pa_nil))) pa_nil)))))
    (pss_cons (ps_expr (pe_bm PySem.F.plainAttrs_list PySem.F.slot_list_append PySem.F.type_list_append mt_append (pv 2) (pa_cons pe_str pa_nil)))
    (pss_one (ps_ret (pv 2))))))))))))), ?_⟩
  have ha := tok.at_
  have hv0 := hv
  cases t with
  | int m =>
    unfold Tm.d at hv
    obtain ⟨a, x, y, rfl, hs, h1, h2⟩ := Dt.t2 hv
    obtain rfl := h1.s
    obtain rfl := h2.i
    have hm : -1000000000000000 < m ∧ m < 1000000000000000 := ha
    refine vTx rfl hs (atI_nat (j := 0) rfl) ⟨rfl, _, rfl, sT rfl (vTx rfl hs (atI_nat (j := 1) rfl) ?_)⟩
    refine ⟨_, rfl, by omega, by omega, by decide, fun _ => by decide, fun H1 s1 => ⟨small (by show 1 ≤ _; decide), fun p hp => ?_⟩⟩
    exact q _ p _ (s1.trans (same_new hp)) (s1.free hp) upd_same (.cons (.str _) .nil)
  | addr m =>
    unfold Tm.d at hv
    obtain ⟨a, x, y, rfl, hs, h1, h2⟩ := Dt.t2 hv
    obtain rfl := h1.s
    obtain rfl := h2.i
    have hm : 0 ≤ m ∧ m < 1000000000 := ha
    have b := txt_len (n := m) ⟨by omega, by omega⟩
    refine vTx rfl hs (atI_nat (j := 0) rfl) ⟨rfl, _, rfl, sF (by decide +kernel) (vTx rfl hs (atI_nat (j := 0) rfl) ⟨rfl, _, rfl, sT rfl (vTx rfl hs (atI_nat (j := 1) rfl) ?_)⟩)⟩
    refine ⟨_, rfl, by omega, by omega, by decide, fun _ => by decide, fun H1 s1 => ⟨_, _, rfl, rfl, small (by show 1 + (txt m).length ≤ _; omega), small (by show 1 ≤ _; decide), fun p hp => ?_⟩⟩
    exact q _ p _ (s1.trans (same_new hp)) (s1.free hp) upd_same (.cons (.str _) .nil)
  | name m =>
    unfold Tm.d at hv
    obtain ⟨a, x, y, rfl, hs, h1, h2⟩ := Dt.t2 hv
    obtain rfl := h1.s
    obtain rfl := h2.s
    have hm : m.length ≤ 12 := ha.2.hi
    refine vTx rfl hs (atI_nat (j := 0) rfl) ⟨rfl, _, rfl, sF (by decide +kernel) (vTx rfl hs (atI_nat (j := 0) rfl) ⟨rfl, _, rfl, sF (by decide +kernel) (vTx rfl hs (atI_nat (j := 0) rfl) ⟨rfl, _, rfl, sT rfl (vTx rfl hs (atI_nat (j := 1) rfl) ?_)⟩)⟩)⟩
    refine ⟨_, _, rfl, rfl, small (by show 1 + m.length ≤ _; omega), small (by show 1 ≤ _; decide), fun p hp => ?_⟩
    exact q _ p _ (same_new hp) hp upd_same (.cons (.str _) .nil)
  | var m =>
    unfold Tm.d at hv
    obtain ⟨a, x, y, rfl, hs, h1, h2⟩ := Dt.t2 hv
    obtain rfl := h1.s
    obtain rfl := h2.s
    have hm : m.length ≤ 12 := Wd.hi ha.2
    refine vTx rfl hs (atI_nat (j := 0) rfl) ⟨rfl, _, rfl, sF (by decide +kernel) (vTx rfl hs (atI_nat (j := 0) rfl) ⟨rfl, _, rfl, sF (by decide +kernel) (vTx rfl hs (atI_nat (j := 0) rfl) ⟨rfl, _, rfl, sF (by decide +kernel) (vTx rfl hs (atI_nat (j := 0) rfl) ⟨rfl, _, rfl, sT rfl (vTx rfl hs (atI_nat (j := 1) rfl) ?_)⟩)⟩)⟩)⟩
    refine ⟨_, _, rfl, rfl, small (by show 1 + m.length ≤ _; omega), small (by show 1 ≤ _; decide), fun p hp => ?_⟩
    exact q _ p _ (same_new hp) hp upd_same (.cons (.str _) .nil)
  | map es =>
    unfold Tm.d at hv
    obtain ⟨a, x, y, rfl, hs, h1, h2⟩ := Dt.t2 hv
    obtain rfl := h1.s
    refine vTx rfl hs (atI_nat (j := 0) rfl) ⟨rfl, _, rfl, sF (by decide +kernel) (vTx rfl hs (atI_nat (j := 0) rfl) ⟨rfl, _, rfl, sF (by decide +kernel) (vTx rfl hs (atI_nat (j := 0) rfl) ⟨rfl, _, rfl, sF (by decide +kernel) (vTx rfl hs (atI_nat (j := 0) rfl) ⟨rfl, _, rfl, sF (by decide +kernel) (vTx rfl hs (atI_nat (j := 0) rfl) ⟨rfl, _, rfl, sT rfl ?_⟩)⟩)⟩)⟩)⟩
    exact ⟨_, rfl, _, es, sig, ws, rfl, hv0, tok, fun H' p xs s1 hp hp2 dx => q H' p xs s1 hp hp2 dx⟩
  | node c ts =>
    unfold Tm.d at hv
    obtain ⟨a, x, y, z, rfl, hs, h1, h2, h3⟩ := Dt.t3 hv
    obtain rfl := h1.s
    obtain rfl := h2.s
    have hc : c.length ≤ 12 := Wd.hi ha.1
    refine vTx rfl hs (atI_nat (j := 0) rfl) ⟨rfl, _, rfl, sF (by decide +kernel) (vTx rfl hs (atI_nat (j := 0) rfl) ⟨rfl, _, rfl, sF (by decide +kernel) (vTx rfl hs (atI_nat (j := 0) rfl) ⟨rfl, _, rfl, sF (by decide +kernel) (vTx rfl hs (atI_nat (j := 0) rfl) ⟨rfl, _, rfl, sF (by decide +kernel) (vTx rfl hs (atI_nat (j := 0) rfl) ⟨rfl, _, rfl, sF (by decide +kernel) ?_⟩)⟩)⟩)⟩)⟩
    refine vTx rfl hs (atI_nat (j := 0) rfl) ⟨rfl, _, rfl, sT rfl (vTx rfl hs (atI_nat (j := 1) rfl) ?_)⟩
    have hkl : (Tm.node c ts).kids.length ≤ 10000000 := by
      have : ts.length ≤ 8 := ha.2.2
      show ts.length ≤ _; omega
    have ht8 : ts.length ≤ 8 := ha.2.2
    refine ⟨_, rfl, _, _, H, rfl, fun _ _ h => h, hv0, hkl, fun H1 pk wk s1 hk dk => ⟨!wk.isEmpty, .inr (.inl ⟨wk, hk, rfl⟩), ?_⟩⟩
    have dk : DtAll K H wk (ts.map Tm.d) := dk
    have lk := dk.lenD
    rw [List.length_map] at lk
    cases ts with
    | nil =>
      cases wk with
      | cons _ _ => cases lk
      | nil =>
        refine ite2 (fun _ => ?_) (fun z => absurd rfl z)
        refine ⟨_, rfl, small (by show 1 ≤ _; decide), fun p hp => ?_⟩
        exact q _ p _ (s1.trans (same_new hp)) (s1.free hp) upd_same (.cons (.str _) .nil)
    | cons t0 tr =>
      cases wk with
      | nil => cases lk
      | cons w0 wr =>
        refine ite2 (fun z => by cases z) (fun _ => ?_)
        refine ⟨_, rfl, _, _, rfl, rfl, small (by show 1 + c.length ≤ _; omega), small (by show 1 ≤ _; decide), fun p hp => ?_⟩
        have s2 := s1.trans (same_new (o := .lst [.str ("(" ++ c)]) hp)
        have hpH := s1.free hp
        refine ⟨_, rfl, _, _, H, rfl, fun a xs h => Same.seqT s2 h, hv0, hkl, fun H3 p3 w3 s3 hq3 dk3 => ⟨p3, rfl, ⟨w3, hq3⟩, ?_⟩⟩
        have dk3 : DtAll K H w3 ((t0 :: tr).map Tm.d) := dk3
        have l3 := dk3.lenD
        rw [List.length_map] at l3
        have hp3 : H3 p = some (.lst [.str ("(" ++ c)]) := s3 _ _ upd_same
        refine for_it (walk_tup (xs := w3)) (fun i σ H' => ∃ (xs : List V) (o : Option V), σ = [some (.ref a), some (.str c), some (.ref p), o] ∧ Same H H' ∧ H' p = some (.lst xs) ∧ SqT K H' p3 w3 ∧ DtAll K H' xs ((Pc.s ("(" ++ c) :: ((t0 :: tr).take i).flatMap fun k => [Pc.s " ", Pc.t k]).map Pc.d) ∧ xs.length = 1 + 2 * i)
          ⟨_, none, rfl, s2.trans s3, hp3, hq3, .cons (.str _) .nil, rfl⟩ (fun j σ H' _ z => by obtain ⟨_, _, _, _, _, z, _⟩ := z; exact z) (fun j x σ H2 H' hj z y => ?_) (fun σ H' z => ?_)
        · obtain ⟨rfl, gx⟩ := y
          obtain ⟨xs, o, rfl, sm, hp', hq', dx, lx⟩ := z
          have hj2 : j < (t0 :: tr).length := by rw [← l3]; exact hj
          obtain ⟨d, e1, dxx⟩ := dk3.getX gx
          rw [List.getElem?_map, List.getElem?_eq_getElem hj2] at e1
          obtain rfl : ((t0 :: tr)[j]).d = d := Option.some.inj e1
          have eT : (t0 :: tr).take (j + 1) = (t0 :: tr).take j ++ [(t0 :: tr)[j]] := by rw [List.take_add_one, List.getElem?_eq_getElem hj2]; rfl
          refine ⟨_, rfl, .inl ⟨rfl, _, SqL.of hp'⟩, _, rfl, small (by show 2 ≤ _; decide), fun q1 hq1 => ?_⟩
          have npq : p ≠ q1 := ne_of_none hp' hq1
          have hp4 : (upd H' q1 (.lst [.str " ", x])) p = some (.lst xs) := by rw [upd_ne npq]; exact hp'
          refine ⟨p, q1, _, _, rfl, rfl, hp4, upd_same, small (by show xs.length + 2 ≤ _; omega), _, _, rfl, Same.upd (sm.trans (same_new hq1)) hpH, upd_same, seqT_upd (Same.seqT (same_new hq1) hq') hp4, ?_, by rw [List.length_append, lx]; show 1 + 2 * j + 2 = _; omega⟩
          rw [eT, List.flatMap_append, ← List.cons_append, List.map_append]
          exact DtAll.append ((dx.same (same_new hq1)).upd hp4) (.cons (.str _) (.cons (((dxx.same sm).same (same_new hq1)).updL hp4) .nil))
        · obtain ⟨xs, o, rfl, sm, hp', hq', dx, lx⟩ := z
          rw [l3, List.take_length] at dx
          have : w3.length ≤ 8 := by rw [l3]; exact ht8
          refine ⟨_, rfl, .inl ⟨rfl, _, SqL.of hp'⟩, p, xs, _, rfl, rfl, hp', Nat.lt_of_le_of_lt (show xs.length ≤ 100 by omega) (by decide), _, rfl, q _ p _ (Same.upd sm hpH) hpH upd_same ?_⟩
          rw [show pcs (.node c (t0 :: tr)) = (Pc.s ("(" ++ c) :: (t0 :: tr).flatMap fun k => [Pc.s " ", Pc.t k]) ++ [Pc.s ")"] from rfl, List.map_append]
          exact DtAll.append (dx.upd hp') (.cons (.str _) .nil)
  | form f ts =>
    unfold Tm.d at hv
    obtain ⟨a, xs0, rfl, hs, da⟩ := Dt.tn hv
    cases da with
    | cons h1 dr =>
    obtain rfl := h1.s
    have hc : f.s.length ≤ 12 := by rw [len_list]; exact f.s_len
    have ne : ∀ x ∈ (["int", "addr", "name", "meta", "map", "node"] : List Str), f.s ≠ x := by cases f <;> decide +kernel
    refine vTx rfl hs (atI_nat (j := 0) rfl) ⟨rfl, _, rfl, sF (ne "int" (by decide +kernel)) (vTx rfl hs (atI_nat (j := 0) rfl) ⟨rfl, _, rfl, sF (ne "addr" (by decide +kernel)) (vTx rfl hs (atI_nat (j := 0) rfl) ⟨rfl, _, rfl, sF (ne "name" (by decide +kernel)) (vTx rfl hs (atI_nat (j := 0) rfl) ⟨rfl, _, rfl, sF (ne "meta" (by decide +kernel)) (vTx rfl hs (atI_nat (j := 0) rfl) ⟨rfl, _, rfl, sF (ne "map" (by decide +kernel)) ?_⟩)⟩)⟩)⟩)⟩
    refine vTx rfl hs (atI_nat (j := 0) rfl) ⟨rfl, _, rfl, sF (ne "node" (by decide +kernel)) (vTx rfl hs (atI_nat (j := 0) rfl) ?_)⟩
    have hkl : (Tm.form f ts).kids.length ≤ 10000000 := by
      have : ts.length ≤ 8 := Nat.le_trans (show ts.length ≤ 3 from ha.2) (by decide)
      show ts.length ≤ _; omega
    have ht8 : ts.length ≤ 8 := Nat.le_trans (show ts.length ≤ 3 from ha.2) (by decide)
    refine ⟨_, rfl, _, _, H, rfl, fun _ _ h => h, hv0, hkl, fun H1 pk wk s1 hk dk => ⟨!wk.isEmpty, .inr (.inl ⟨wk, hk, rfl⟩), ?_⟩⟩
    have dk : DtAll K H wk (ts.map Tm.d) := dk
    have lk := dk.lenD
    rw [List.length_map] at lk
    cases ts with
    | nil =>
      cases wk with
      | cons _ _ => cases lk
      | nil =>
        refine ite2 (fun _ => ?_) (fun z => absurd rfl z)
        refine ⟨_, rfl, small (by show 1 ≤ _; decide), fun p hp => ?_⟩
        exact q _ p _ (s1.trans (same_new hp)) (s1.free hp) upd_same (.cons (.str _) .nil)
    | cons t0 tr =>
      cases wk with
      | nil => cases lk
      | cons w0 wr =>
        refine ite2 (fun z => by cases z) (fun _ => ?_)
        refine ⟨_, rfl, _, _, rfl, rfl, small (by show 1 + f.s.length ≤ _; omega), small (by show 1 ≤ _; decide), fun p hp => ?_⟩
        have s2 := s1.trans (same_new (o := .lst [.str ("(" ++ f.s)]) hp)
        have hpH := s1.free hp
        refine ⟨_, rfl, _, _, H, rfl, fun a xs h => Same.seqT s2 h, hv0, hkl, fun H3 p3 w3 s3 hq3 dk3 => ⟨p3, rfl, ⟨w3, hq3⟩, ?_⟩⟩
        have dk3 : DtAll K H w3 ((t0 :: tr).map Tm.d) := dk3
        have l3 := dk3.lenD
        rw [List.length_map] at l3
        have hp3 : H3 p = some (.lst [.str ("(" ++ f.s)]) := s3 _ _ upd_same
        refine for_it (walk_tup (xs := w3)) (fun i σ H' => ∃ (xs : List V) (o : Option V), σ = [some (.ref a), some (.str f.s), some (.ref p), o] ∧ Same H H' ∧ H' p = some (.lst xs) ∧ SqT K H' p3 w3 ∧ DtAll K H' xs ((Pc.s ("(" ++ f.s) :: ((t0 :: tr).take i).flatMap fun k => [Pc.s " ", Pc.t k]).map Pc.d) ∧ xs.length = 1 + 2 * i)
          ⟨_, none, rfl, s2.trans s3, hp3, hq3, .cons (.str _) .nil, rfl⟩ (fun j σ H' _ z => by obtain ⟨_, _, _, _, _, z, _⟩ := z; exact z) (fun j x σ H2 H' hj z y => ?_) (fun σ H' z => ?_)
        · obtain ⟨rfl, gx⟩ := y
          obtain ⟨xs, o, rfl, sm, hp', hq', dx, lx⟩ := z
          have hj2 : j < (t0 :: tr).length := by rw [← l3]; exact hj
          obtain ⟨d, e1, dxx⟩ := dk3.getX gx
          rw [List.getElem?_map, List.getElem?_eq_getElem hj2] at e1
          obtain rfl : ((t0 :: tr)[j]).d = d := Option.some.inj e1
          have eT : (t0 :: tr).take (j + 1) = (t0 :: tr).take j ++ [(t0 :: tr)[j]] := by rw [List.take_add_one, List.getElem?_eq_getElem hj2]; rfl
          refine ⟨_, rfl, .inl ⟨rfl, _, SqL.of hp'⟩, _, rfl, small (by show 2 ≤ _; decide), fun q1 hq1 => ?_⟩
          have npq : p ≠ q1 := ne_of_none hp' hq1
          have hp4 : (upd H' q1 (.lst [.str " ", x])) p = some (.lst xs) := by rw [upd_ne npq]; exact hp'
          refine ⟨p, q1, _, _, rfl, rfl, hp4, upd_same, small (by show xs.length + 2 ≤ _; omega), _, _, rfl, Same.upd (sm.trans (same_new hq1)) hpH, upd_same, seqT_upd (Same.seqT (same_new hq1) hq') hp4, ?_, by rw [List.length_append, lx]; show 1 + 2 * j + 2 = _; omega⟩
          rw [eT, List.flatMap_append, ← List.cons_append, List.map_append]
          exact DtAll.append ((dx.same (same_new hq1)).upd hp4) (.cons (.str _) (.cons (((dxx.same sm).same (same_new hq1)).updL hp4) .nil))
        · obtain ⟨xs, o, rfl, sm, hp', hq', dx, lx⟩ := z
          rw [l3, List.take_length] at dx
          have : w3.length ≤ 8 := by rw [l3]; exact ht8
          refine ⟨_, rfl, .inl ⟨rfl, _, SqL.of hp'⟩, p, xs, _, rfl, rfl, hp', Nat.lt_of_le_of_lt (show xs.length ≤ 100 by omega) (by decide), _, rfl, q _ p _ (Same.upd sm hpH) hpH upd_same ?_⟩
          rw [show pcs (.form f (t0 :: tr)) = (Pc.s ("(" ++ f.s) :: (t0 :: tr).flatMap fun k => [Pc.s " ", Pc.t k]) ++ [Pc.s ")"] from rfl, List.map_append]
          exact DtAll.append (dx.upd hp') (.cons (.str _) .nil)
theorem nodeP_facts {sig : List (Str × Nat)} {ws : List Str} {c : Str} {ts : List Tm} (hc : c.length ≤ 12) (hk : ∀ k ∈ ts, FOk sig ws k) : (nodeP c ts).flatMap Pc.cl = nodeL c (ts.map Tm.cl) ∧ (∀ k, Pc.t k ∈ nodeP c ts → FOk sig ws k) ∧ ((nodeP c ts).map Pc.w).sum < 5 * (1 + (ts.map Tm.size).sum) - 2 ∧ ∀ x, Pc.s x ∈ nodeP c ts → x.length ≤ 20 := by
    cases ts with
    | nil =>
      refine ⟨List.append_nil _, fun (k : Tm) hk => (by cases List.mem_singleton.mp hk), (by show 1 + 0 < 5 * (1 + 0) - 2; omega), fun y hy => ?_⟩
      cases List.mem_singleton.mp hy; omega
    | cons t0 tr =>
      have e : nodeP c (t0 :: tr) = .s ("(" ++ c) :: (((t0 :: tr).flatMap fun k => [Pc.s " ", Pc.t k]) ++ [.s ")"]) := rfl
      have c1 : ∀ l : List Tm, (l.flatMap fun k => [Pc.s " ", Pc.t k]).flatMap Pc.cl = l.flatMap fun k => 32 :: k.cl := fun l => by
        rw [List.flatMap_assoc]
        congr 1; funext k
        show (" " : Str).cps.toList ++ (k.cl ++ []) = _
        rw [List.append_nil, show (" " : Str).cps.toList = [32] by decide +kernel]; rfl
      have c2 : ∀ l : List Tm, ((l.flatMap fun k => [Pc.s " ", Pc.t k]).map Pc.w).sum ≤ 5 * (l.map Tm.size).sum := fun l => by
        induction l with
        | nil => exact Nat.le_refl _
        | cons k r ih =>
          have := k.size_pos
          rw [List.flatMap_cons, List.map_append, List.sum_append, List.map_cons (f := Tm.size), List.sum_cons]
          show 1 + (5 * k.size - 2 + 0) + _ ≤ _
          omega
      have c3 : ∀ (l : List Tm) (z : Pc), z ∈ (l.flatMap fun k => [Pc.s " ", Pc.t k]) → z = .s " " ∨ ∃ k ∈ l, z = .t k := fun l z hz => by
        obtain ⟨k, hk, hz⟩ := List.mem_flatMap.mp hz
        rcases List.mem_cons.mp hz with rfl | hz
        · exact .inl rfl
        · exact .inr ⟨k, hk, List.mem_singleton.mp hz⟩
      rw [e]
      generalize hl : t0 :: tr = l at *
      refine ⟨?_, fun k hk2 => ?_, ?_, fun x hx => ?_⟩
      · rw [List.flatMap_cons, List.flatMap_append, c1]
        have e2 : nodeL c (l.map Tm.cl) = 40 :: (c.cps.toList ++ ((l.map Tm.cl).flatMap (32 :: ·) ++ [41])) := by rw [← hl]; rfl
        rw [e2, List.flatMap_map]
        show ("(" ++ c : Str).cps.toList ++ _ = _
        rw [pfx_list (by decide +kernel : ("(" : Str).cps.toList = [40])]
        show _ ++ (_ ++ ((")" : Str).cps.toList ++ [])) = _
        rw [List.append_nil, show (")" : Str).cps.toList = [41] by decide +kernel]; rfl
      · rcases List.mem_cons.mp hk2 with h1 | hk2
        · cases h1
        rcases List.mem_append.mp hk2 with h1 | h1
        · rcases c3 l _ h1 with h2 | ⟨k', hk', h2⟩
          · cases h2
          · cases h2; exact hk _ hk'
        · cases List.mem_singleton.mp h1
      · rw [List.map_cons, List.sum_cons, List.map_append, List.sum_append]
        have := c2 l
        show 1 + (_ + (1 + 0)) < _
        omega
      · rcases List.mem_cons.mp hx with h1 | hx
        · cases h1; rw [Str.length_append]; show 1 + c.length ≤ _; omega
        rcases List.mem_append.mp hx with h1 | h1
        · rcases c3 l _ h1 with h2 | ⟨k', hk', h2⟩
          · cases h2; decide
          · cases h2
        · cases List.mem_singleton.mp h1; decide
theorem pcs_facts {sig : List (Str × Nat)} {ws : List Str} {t : Tm} (h : FOk sig ws t) : (pcs t).flatMap Pc.cl = t.cl ∧ (∀ k, Pc.t k ∈ pcs t → FOk sig ws k) ∧ ((pcs t).map Pc.w).sum < 5 * t.size - 2 ∧ ∀ x, Pc.s x ∈ pcs t → x.length ≤ 20 := by
  have hp := t.size_pos
  have ha := h.at_
  have one : ∀ {x : Str}, pcs t = [.s x] → x.cps.toList = t.cl → x.length ≤ 20 → (pcs t).flatMap Pc.cl = t.cl ∧ (∀ k, Pc.t k ∈ pcs t → FOk sig ws k) ∧ ((pcs t).map Pc.w).sum < 5 * t.size - 2 ∧ ∀ x, Pc.s x ∈ pcs t → x.length ≤ 20 := fun e1 e2 e3 => by
    rw [e1]
    refine ⟨by rw [← e2]; exact List.append_nil _, fun (k : Tm) hk => (by cases List.mem_singleton.mp hk), (by show 1 + 0 < _; omega), fun y hy => ?_⟩
    cases List.mem_singleton.mp hy; exact e3
  cases t with
  | form f ts =>
    have hs : (Tm.form f ts).size = 1 + (ts.map Tm.size).sum := Tm.size_eq _
    rw [cl_form, hs]
    exact nodeP_facts (by rw [len_list]; exact f.s_len) fun k hk => h.kid hk
  | int n => exact one rfl (by rw [Tm.cl]) (Nat.le_trans (txt_len ha) (by decide))
  | addr n =>
    have := txt_len (n := n) ⟨by have := ha.1; omega, by have := ha.2; omega⟩
    exact one rfl (by rw [Tm.cl, pfx_list (by decide +kernel : ("@" : Str).cps.toList = [64])]) (by rw [Str.length_append]; show 1 + (txt n).length ≤ _; omega)
  | name n =>
    have : n.length ≤ 12 := ha.2.hi
    exact one rfl (by rw [Tm.cl, pfx_list (by decide +kernel : ("'" : Str).cps.toList = [39])]) (by rw [Str.length_append]; show 1 + n.length ≤ _; omega)
  | var n =>
    have : n.length ≤ 12 := Wd.hi ha.2
    exact one rfl (by rw [Tm.cl, pfx_list (by decide +kernel : ("$" : Str).cps.toList = [36])]) (by rw [Str.length_append]; show 1 + n.length ≤ _; omega)
  | node c ts =>
    have hs : (Tm.node c ts).size = 1 + (ts.map Tm.size).sum := Tm.size_eq _
    rw [cl_node, hs]
    exact nodeP_facts (Wd.hi ha.1) fun k hk => h.kid hk
  | map es =>
    have hs : (Tm.map es).size = 1 + ((es.map Prod.snd).map Tm.size).sum := Tm.size_eq _
    have c0 : ∀ e : Str × Tm, (entP e).flatMap Pc.cl = entL (e.1, e.2.cl) := fun e => by
      show (("'" ++ e.1 : Str) ++ " ").cps.toList ++ (e.2.cl ++ []) = _
      rw [List.append_nil, app_list, pfx_list (by decide +kernel : ("'" : Str).cps.toList = [39]), show (" " : Str).cps.toList = [32] by decide +kernel]
      unfold entL
      simp only [List.cons_append, List.append_assoc, List.nil_append]
    have c1 : ∀ l : List (Str × Tm), (rowsP l).flatMap Pc.cl = glue (l.map fun e => entL (e.1, e.2.cl)) := fun l => by
      cases l with
      | nil => rfl
      | cons e r =>
        show (entP e ++ r.flatMap fun e => Pc.s " " :: entP e).flatMap Pc.cl = entL (e.1, e.2.cl) ++ (r.map fun e => entL (e.1, e.2.cl)).flatMap (32 :: ·)
        rw [List.flatMap_append, c0, List.flatMap_assoc, List.flatMap_map]
        congr 2; funext e
        rw [List.flatMap_cons, c0]
        show (" " : Str).cps.toList ++ _ = _
        rw [show (" " : Str).cps.toList = [32] by decide +kernel]; rfl
    have c2 : ∀ l : List (Str × Tm), ((l.flatMap fun e => Pc.s " " :: entP e).map Pc.w).sum ≤ 5 * ((l.map Prod.snd).map Tm.size).sum := fun l => by
      induction l with
      | nil => exact Nat.le_refl _
      | cons k r ih =>
        have := k.2.size_pos
        rw [List.flatMap_cons, List.map_append, List.sum_append, List.map_cons (f := Prod.snd), List.map_cons (f := Tm.size), List.sum_cons]
        show 1 + (1 + (5 * k.2.size - 2 + 0)) + _ ≤ _
        omega
    have c3 : ∀ (z : Pc), z ∈ rowsP es → z = .s " " ∨ ∃ e ∈ es, z ∈ entP e := fun z hz => by
      cases es with
      | nil => cases hz
      | cons e r =>
        rcases List.mem_append.mp (show z ∈ entP e ++ r.flatMap (fun e => Pc.s " " :: entP e) from hz) with h1 | h1
        · exact .inr ⟨e, List.mem_cons_self, h1⟩
        · obtain ⟨k, hk, h1⟩ := List.mem_flatMap.mp h1
          rcases List.mem_cons.mp h1 with h1 | h1
          · exact .inl h1
          · exact .inr ⟨k, List.mem_cons_of_mem _ hk, h1⟩
    have c4 : ((rowsP es).map Pc.w).sum ≤ 5 * ((es.map Prod.snd).map Tm.size).sum := by
      cases es with
      | nil => exact Nat.le_refl _
      | cons e r =>
        have h1 := c2 r
        have h2 := e.2.size_pos
        show ((entP e ++ r.flatMap fun e => Pc.s " " :: entP e).map Pc.w).sum ≤ _
        rw [List.map_append, List.sum_append, List.map_cons (f := Prod.snd), List.map_cons (f := Tm.size), List.sum_cons]
        show 1 + (5 * e.2.size - 2 + 0) + _ ≤ _
        omega
    rw [show pcs (.map es) = Pc.s "{" :: (rowsP es ++ [Pc.s "}"]) from rfl]
    refine ⟨?_, fun k hk => ?_, ?_, fun x hx => ?_⟩
    · rw [List.flatMap_cons, List.flatMap_append, c1, cl_map]
      show ("{" : Str).cps.toList ++ (_ ++ (("}" : Str).cps.toList ++ [])) = 123 :: (glue ((es.map fun e => (e.1, e.2.cl)).map entL) ++ [125])
      rw [List.append_nil, List.map_map, show ("{" : Str).cps.toList = [123] by decide +kernel, show ("}" : Str).cps.toList = [125] by decide +kernel]; rfl
    · rcases List.mem_cons.mp hk with h1 | hk
      · cases h1
      rcases List.mem_append.mp hk with h1 | h1
      · rcases c3 _ h1 with h2 | ⟨e, he, h2⟩
        · cases h2
        · rcases List.mem_cons.mp h2 with h3 | h3
          · cases h3
          · cases List.mem_singleton.mp h3
            exact h.kid (List.mem_map.mpr ⟨e, he, rfl⟩)
      · cases List.mem_singleton.mp h1
    · rw [List.map_cons, List.sum_cons, List.map_append, List.sum_append]
      show 1 + (_ + (1 + 0)) < _
      omega
    · rcases List.mem_cons.mp hx with h1 | hx
      · cases h1; decide
      rcases List.mem_append.mp hx with h1 | h1
      · rcases c3 _ h1 with h2 | ⟨e, he, h2⟩
        · cases h2; decide
        · rcases List.mem_cons.mp h2 with h3 | h3
          · cases h3
            have : e.1.length ≤ 12 := Wd.hi (ha.2.1 e he).2
            rw [Str.length_append, Str.length_append]
            show 1 + e.1.length + 1 ≤ _
            omega
          · cases List.mem_singleton.mp h3
      · cases List.mem_singleton.mp h1; decide
def WInv (K : PySem.W.Frag) (H : Hp) (sig : List (Str × Nat)) (wn : List Str) (t : Tm) (v : V) (W A : Addr) (m : Nat) (σ : L2.St) (H' : Hp) : Prop := ∃ (l : List Pc) (ws : List Str) (xs : List V) (o : Option V), m = (l.map Pc.w).sum ∧ σ = [some v, some (.ref W), some (.ref A), o] ∧ Same H H' ∧ H' W = some (.lst (ws.map V.str)) ∧ H' A = some (.lst xs) ∧ DtAll K H' xs (l.reverse.map Pc.d) ∧ (∀ k, Pc.t k ∈ l → FOk sig wn k) ∧ (∀ x, Pc.s x ∈ l → x.length ≤ 20) ∧ ws.flatMap (fun s => s.cps.toList) ++ l.flatMap Pc.cl = t.cl ∧ ws.length + (l.map Pc.w).sum ≤ 5 * t.size
theorem ok_write {f : Addr} {fd : FuncData} (F : Fun K "write_term" "write_term" s_write_term f fd) (T : TxtW K mg aS CL CP) (C_pieces : C8.Cal P w K mg base 3 "_pieces" (spPcs K) []) : FnOk P w K mg base CX0 4 f fd ["term"] (spWrite K) := by
  refine F.ok sc_write_term (fun vs H Q E h => ?_) (fun cdv A outer s H vs Q E hr h => ?_)
  · obtain ⟨_, _, _, _, rfl, _⟩ := h
    rfl
  obtain ⟨v, t, sig, wn, rfl, hv, tok, hsz, q⟩ := h
  refine ⟨_, (pss_cons (ps_set (i := 1) sc_write_term.nd rfl (Or.inl rfl) (pe_lst pa_nil))
    (pss_cons (ps_set (i := 2) sc_write_term.nd rfl (Or.inl rfl) (pe_lst (pa_cons (pv 0) pa_nil)))
    (pss_cons (ps_while PassesOwn.never (pt_truth (pv 2) (by intro _; rfl)) (pss_cons (ps_set (i := 3) sc_write_term.nd rfl (Or.inl rfl) (pe_bm0 PySem.F.plainAttrs_list PySem.F.slot_list_pop PySem.F.type_list_pop mt_pop (pv 2)))
    (pss_one (ps_if (pt_val (pe_callB call_isi (by rfl) T.z_isinstance (by decide +kernel) (pa_cons (pv 3) (pa_cons (pe_bltn (v := .ty "str") (by rfl) T.z_str (by decide +kernel) rfl) pa_nil)))) (pss_one (ps_expr (pe_bm PySem.F.plainAttrs_list PySem.F.slot_list_append PySem.F.type_list_append mt_append (pv 1) (pa_cons (pv 3) pa_nil)))) (pss_one (ps_expr (pe_bm PySem.F.plainAttrs_list PySem.F.slot_list_extend PySem.F.type_list_extend mt_extend (pv 2) (pa_cons (pe_revL (C8.pe_c C_pieces hr (by decide) rfl (pa_cons (pv 3) pa_nil))) pa_nil))))))))
    (pss_one (ps_ret (pe_join pe_str (pv 1))))))), ?_⟩
  have hpos := t.size_pos
  refine ⟨small (by show 0 ≤ _; decide), fun W hW => ⟨_, rfl, small (by show 1 ≤ _; decide), fun A hA => ?_⟩⟩
  have s1 := same_new (o := .lst []) hW
  have s2 := s1.trans (same_new (o := .lst [v]) hA)
  have nWA : W ≠ A := ne_of_none upd_same hA
  refine ⟨WInv K H sig wn t v W A, ⟨_, [.t t], [], [v], none, rfl, rfl, s2, by rw [upd_ne nWA]; exact upd_same, upd_same, .cons ((hv.same s1).same (same_new hA)) .nil, fun k hk => ?_, fun x hx => ?_, ?_, ?_⟩, ?_⟩
  · rcases List.mem_singleton.mp hk with ⟨⟩; exact tok
  · cases List.mem_singleton.mp hx
  · show [] ++ (t.cl ++ []) = t.cl
    rw [List.append_nil, List.nil_append]
  · show 0 + (5 * t.size - 2 + 0) ≤ _
    omega
  rintro m σ H1 ⟨l, ws, xs, o, rfl, rfl, sm, hW1, hA1, dx, hok, hsl, ecl, hw⟩
  refine ⟨_, rfl, !xs.isEmpty, .inl ⟨xs, SqL.of hA1, rfl⟩, ?_⟩
  cases l with
  | nil =>
    cases dx
    have ecl : ws.flatMap (fun s => s.cps.toList) = t.cl := by
      rw [← ecl]; exact (List.append_nil _).symm
    have el : (ws.map (·.length)).sum = t.cl.length := by
      rw [← ecl, List.length_flatMap]
      congr 1
    have hcl := cl_len tok
    refine iteF ⟨⟨_, rfl⟩, _, rfl, "", W, ws, rfl, rfl, .inl (SqL.of hW1), by rw [el]; show _ + _ * 0 ≤ _; omega, q H1 _ sm ?_⟩
    rw [txt_flat]; exact ecl
  | cons e r =>
    rw [List.reverse_cons, List.map_append] at dx
    obtain ⟨ys, zs, rfl, d1, d2⟩ := DtAll.splitR dx
    cases d2 with
    | cons dz dn =>
    cases dn
    rename_i x
    rw [show (!(ys ++ [x]).isEmpty) = true by simp]
    refine iteT ⟨fun σ' H' => ∃ m', m' < ((e :: r).map Pc.w).sum ∧ WInv K H sig wn t v W A m' σ' H', fun _ _ h => h, ?_⟩
    refine ⟨_, rfl, .inl ⟨rfl, _, SqL.of hA1⟩, A, _, x, rfl, rfl, hA1, by rw [List.length_append]; simp, ?_⟩
    rw [List.dropLast_concat]
    have hWH : H W = none := hW
    have hAH : H A = none := s1.free hA
    have wpos : ∀ e : Pc, 1 ≤ e.w := fun e => by
      cases e with
      | s _ => exact Nat.le_refl _
      | t k => have := k.size_pos; show 1 ≤ 5 * k.size - 2; omega
    have wlen : ∀ l : List Pc, l.length ≤ (l.map Pc.w).sum := fun l => by
      induction l with
      | nil => exact Nat.le_refl _
      | cons a r ih => have := wpos a; rw [List.map_cons, List.sum_cons, List.length_cons]; omega
    have sm2 : Same H (upd H1 A (.lst ys)) := Same.upd sm hAH
    have hA2 : (upd H1 A (.lst ys)) A = some (.lst ys) := upd_same
    have hW2 : (upd H1 A (.lst ys)) W = some (.lst (ws.map V.str)) := by rw [upd_ne nWA]; exact hW1
    have dy : DtAll K (upd H1 A (.lst ys)) ys (r.reverse.map Pc.d) := d1.upd hA1
    have dx : Dt K (upd H1 A (.lst ys)) x e.d := dz.updL hA1
    have ylen : ys.length ≤ 60000 := by
      have h1 := dy.lenD
      rw [List.length_map, List.length_reverse] at h1
      have h2 := wlen r
      have h3 := wpos e
      rw [List.map_cons, List.sum_cons] at hw
      omega
    generalize upd H1 A (.lst ys) = H2 at sm2 hA2 hW2 dy dx
    cases e with
    | s y =>
      obtain rfl := dx.s
      refine vIsi rfl (.base (.str y)) (b := true) (by decide +kernel) ⟨_, rfl, iteT ?_⟩
      refine ⟨_, rfl, .inl ⟨rfl, _, SqL.of hW2⟩, _, rfl, W, _, _, rfl, rfl, hW2, Nat.lt_of_le_of_lt (show (ws.map V.str).length ≤ 60000 by rw [List.length_map]; omega) (by decide), (r.map Pc.w).sum, (by rw [List.map_cons, List.sum_cons]; exact Nat.lt_add_of_pos_left (show 0 < 1 from Nat.one_pos)), r, ws ++ [y], ys, _, rfl, rfl, Same.upd sm2 hWH, by rw [upd_same, List.map_append]; rfl, by rw [upd_ne nWA.symm]; exact hA2, dy.upd hW2, fun k hk => hok k (List.mem_cons_of_mem _ hk), fun z hz => hsl z (List.mem_cons_of_mem _ hz), ?_, ?_⟩
      · rw [← ecl]
        simp only [List.flatMap_append, List.flatMap_cons, List.flatMap_nil, List.append_nil, List.append_assoc]
        rfl
      · rw [List.map_cons, List.sum_cons] at hw
        rw [List.length_append]
        have : Pc.w (.s y) = 1 := rfl
        show ws.length + 1 + _ ≤ _
        omega
    | t k =>
      obtain ⟨b1, r1, rfl, hh1⟩ := Tm.dt_parts dx
      have tk := hok k List.mem_cons_self
      obtain ⟨f1, f2, f3, f4⟩ := pcs_facts tk
      have kpos := k.size_pos
      refine vIsi rfl (ty_tup hh1) (b := false) (by decide +kernel) ⟨_, rfl, iteF ?_⟩
      refine ⟨_, rfl, .inl ⟨rfl, _, SqL.of hA2⟩, _, rfl, _, k, sig, wn, rfl, dx, tk, fun H3 p zs s3 hp hp3 dzs => ⟨p, zs, rfl, SqL.of hp3, fun q1 hq1 => ?_⟩⟩
      have nAq : A ≠ q1 := ne_of_none (s3 _ _ hA2) hq1
      have nWq : W ≠ q1 := ne_of_none (s3 _ _ hW2) hq1
      have s4 := s3.trans (same_new (o := .lst zs.reverse) hq1)
      have hA4 : (upd H3 q1 (.lst zs.reverse)) A = some (.lst ys) := by rw [upd_ne nAq]; exact s3 _ _ hA2
      have hW4 : (upd H3 q1 (.lst zs.reverse)) W = some (.lst (ws.map V.str)) := by rw [upd_ne nWq]; exact s3 _ _ hW2
      have lz : zs.length ≤ 60000 := by
        have h1 := dzs.lenD
        rw [List.length_map] at h1
        have h2 := wlen (pcs k)
        rw [List.map_cons, List.sum_cons] at hw
        have : Pc.w (.t k) = 5 * k.size - 2 := rfl
        omega
      have hw' : ws.length + ((5 * k.size - 2) + (r.map Pc.w).sum) ≤ 5 * t.size := hw
      refine ⟨A, q1, _, _, rfl, rfl, hA4, upd_same, small (by rw [List.length_reverse]; omega), ((pcs k ++ r).map Pc.w).sum, ?_, pcs k ++ r, ws, _, _, rfl, rfl, Same.upd (sm2.trans s4) hAH, by rw [upd_ne nWA]; exact hW4, upd_same, ?_, ?_, ?_, ?_, ?_⟩
      · rw [List.map_append, List.sum_append, List.map_cons, List.sum_cons]
        exact Nat.add_lt_add_right f3 _
      · rw [List.reverse_append, List.map_append]
        refine DtAll.append ((dy.same s4).upd hA4) ?_
        have := (dzs.same (same_new (o := .lst zs.reverse) hq1)).rev.upd (us := ys ++ zs.reverse) hA4
        rw [← List.map_reverse] at this
        exact this
      · intro k' hk'
        rcases List.mem_append.mp hk' with h | h
        · exact f2 k' h
        · exact hok k' (List.mem_cons_of_mem _ h)
      · intro y hy
        rcases List.mem_append.mp hy with h | h
        · exact f4 y h
        · exact hsl y (List.mem_cons_of_mem _ h)
      · rw [← ecl, List.flatMap_append, f1]; rfl
      · rw [List.map_append, List.sum_append]
        omega
end
end PK
namespace PK
open PySem L2 _root_.TL
/-! the law's own text of a term -/
theorem glue_len : ∀ l : List (List Nat), (l.map (·.length)).sum ≤ (glue l).length
  | [] => Nat.le_refl _
  | a :: r => by
    have : ∀ r : List (List Nat), (r.map (·.length)).sum ≤ (r.flatMap (32 :: ·)).length := fun r => by
      induction r with
      | nil => exact Nat.le_refl _
      | cons b r ih =>
        rw [List.flatMap_cons, List.length_append, List.map_cons, List.sum_cons]
        show b.length + _ ≤ (b.length + 1) + _
        omega
    have h := this r
    show a.length + (r.map (·.length)).sum ≤ (a ++ r.flatMap (32 :: ·)).length
    rw [List.length_append]; omega
theorem len_map (xs : List Str) : xs.map (·.length) = (xs.map fun s => s.cps.toList).map (·.length) := by
  rw [List.map_map]
  exact List.map_congr_left fun x _ => len_list x
section
variable {P : Program} {w : World} {K : PySem.W.Frag} {mg : Str → Option Value} {base : Heap} {aS CL CP : Addr}
abbrev s_law_text : Stmt := topS 50
theorem sc_law_text : FnScope ["term", "head", "entry", "part"] ["term"] (defScope s_law_text) := ⟨rfl, rfl, rfl, by decide +kernel, rfl, by decide +kernel, by decide +kernel⟩
-- slots: 0:term 1:head 2:entry(comp) 3:part(comp)
theorem ok_ltext {n : Nat} {f : Addr} {fd : FuncData} (F : Fun K "_law_text" "_law_text" s_law_text f fd) (T : TxtW K mg aS CL CP) (C_law_text : C8.Cal P w K mg base n "_law_text" (spText K n) []) : FnOk P w K mg base CX0 (n + 1) f fd ["term"] (spText K (n + 1)) := by
  refine F.ok sc_law_text (fun vs H Q E h => ?_) (fun cdv A outer s H vs Q E hr h => ?_)
  · obtain ⟨_, _, _, _, rfl, _⟩ := h
    rfl
  obtain ⟨v, t, sig, ws, rfl, hv, tok, hsz, hht, q⟩ := h
  refine ⟨_, (pss_cons (ps_set (i := 1) sc_law_text.nd rfl (Or.inl rfl) (pe_ix ix_tup (pv 0) pe_int (fun _ _ => rfl)))
    (pss_cons (ps_if (pt_cmpR op_eq (pv 1) pe_str (nomark _)) (pss_one (ps_ret (pe_callTy call_str_int (by rfl) T.z_str (by decide +kernel) (pa_cons (pe_ix ix_tup (pv 0) pe_int (fun _ _ => rfl)) pa_nil)))) pss_nil)
    (pss_cons (ps_if (pt_cmpR op_eq (pv 1) pe_str (nomark _)) (pss_one (ps_ret (pe_op op_add_str pe_str (pe_callTy call_str_int (by rfl) T.z_str (by decide +kernel) (pa_cons (pe_ix ix_tup (pv 0) pe_int (fun _ _ => rfl)) pa_nil))))) pss_nil)
    (pss_cons (ps_if (pt_cmpR op_eq (pv 1) pe_str (nomark _)) (pss_one (ps_ret (pe_op op_add_str pe_str (pe_ix ix_tup (pv 0) pe_int (fun _ _ => rfl))))) pss_nil)
    (pss_cons (ps_if (pt_cmpR op_eq (pv 1) pe_str (nomark _)) (pss_one (ps_ret (pe_op op_add_str pe_str (pe_ix ix_tup (pv 0) pe_int (fun _ _ => rfl))))) pss_nil)
    (pss_cons (ps_if (pt_cmpR op_eq (pv 1) pe_str (nomark _)) (pss_one (ps_ret (pe_op op_add_str (pe_op op_add_str pe_str (pe_join pe_str (pe_lc (own := [("entry", 2)]) (g := (gName 2)) (tt := tYes) (by rfl) sc_law_text.nd (pi_tup (pe_ix ix_tup (pv 0) pe_int (fun _ _ => rfl))) (blkOk_by (N := ["term", "head", "entry", "part"]) (sc := defScope s_law_text) (by decide +kernel)) (fun _ _ _ _ _ => (pg_name (i := 2) sc_law_text.nd rfl (Or.inl rfl))) (fun _ _ _ _ _ => pts_nil) (fun _ _ _ _ _ => (pe_op op_add_str (pe_op op_add_str (pe_op op_add_str pe_str (pe_ix (r := rIxT K) ix_tup (pv 2) pe_int (fun _ _ => rfl))) pe_str) (C8.pe_c C_law_text hr (by omega) rfl (pa_cons (pe_ix (r := rIxT K) ix_tup (pv 2) pe_int (fun _ _ => rfl)) pa_nil))))))) pe_str))) pss_nil)
    (pss_cons (ps_if (pt_cmpR op_in_seq (pv 1) (pe_lst (pa_cons pe_str (pa_cons pe_str (pa_cons pe_str (pa_cons pe_str pa_nil))))) rfl) (pss_one (ps_ret (pe_op op_add_str (pe_op op_add_str pe_str (pe_join pe_str (pe_op op_cat (pe_lst (pa_cons (pv 1) pa_nil)) (pe_lc (own := [("part", 3)]) (g := (gName 3)) (tt := tYes) (by rfl) sc_law_text.nd (pi_tup (pe_slice sl_tup (pv 0) (po_some pe_int) po_none)) (blkOk_by (N := ["term", "head", "entry", "part"]) (sc := defScope s_law_text) (by decide +kernel)) (fun _ _ _ _ _ => (pg_name (i := 3) sc_law_text.nd rfl (Or.inl rfl))) (fun _ _ _ _ _ => pts_nil) (fun _ _ _ _ _ => (C8.pe_c C_law_text hr (by omega) rfl (pa_cons (pv 3) pa_nil))))))) pe_str))) pss_nil)
    (pss_cons (ps_if (pt_not (pt_truth (pe_ix ix_tup (pv 0) pe_int (fun _ _ => rfl)) (by intro _; rfl))) (pss_one (ps_ret (pe_ix ix_tup (pv 0) pe_int (fun _ _ => rfl)))) pss_nil)
    (pss_one (ps_ret (pe_op op_add_str (pe_op op_add_str pe_str (pe_join pe_str (pe_op op_cat (pe_lst (pa_cons (pe_ix ix_tup (pv 0) pe_int (fun _ _ => rfl)) pa_nil)) (pe_lc (own := [("part", 3)]) (g := (gName 3)) (tt := tYes) (by rfl) sc_law_text.nd (pi_tup (pe_ix ix_tup (pv 0) pe_int (fun _ _ => rfl))) (blkOk_by (N := ["term", "head", "entry", "part"]) (sc := defScope s_law_text) (by decide +kernel)) (fun _ _ _ _ _ => (pg_name (i := 3) sc_law_text.nd rfl (Or.inl rfl))) (fun _ _ _ _ _ => pts_nil) (fun _ _ _ _ _ => (C8.pe_c C_law_text hr (by omega) rfl (pa_cons (pv 3) pa_nil))))))) pe_str))))))))))), ?_⟩
  have ha := tok.at_
  cases t with
  | form f ts =>
    unfold Tm.d at hv
    obtain ⟨a, xs0, rfl, hs, da⟩ := Dt.tn hv
    cases da with
    | cons h1 dr =>
    obtain rfl := h1.s
    rename_i ys
    have hc : f.s.length ≤ 12 := by rw [len_list]; exact f.s_len
    have ne : ∀ x ∈ (["int", "addr", "name", "meta", "map", "node"] : List Str), f.s ≠ x := by cases f <;> decide +kernel
    refine vTx rfl hs (atI_nat (j := 0) rfl) ⟨_, rfl, rfl, _, rfl, sF (ne "int" (by decide +kernel)) ⟨_, rfl, rfl, _, rfl, sF (ne "addr" (by decide +kernel)) ⟨_, rfl, rfl, _, rfl, sF (ne "name" (by decide +kernel)) ⟨_, rfl, rfl, _, rfl, sF (ne "meta" (by decide +kernel)) ⟨_, rfl, rfl, _, rfl, sF (ne "map" (by decide +kernel)) ?_⟩⟩⟩⟩⟩
    refine ⟨_, rfl, small (by show 4 ≤ _; decide), fun q1 hq1 => ⟨q1, _, rfl, .inl (SqL.of upd_same), rfl, flat_strs ["get", "set", "plus", "minus"], _, rfl, ?_⟩⟩
    rw [show inV (V.str f.s) [V.str "get", .str "set", .str "plus", .str "minus"] = decide (f.s ∈ (["get", "set", "plus", "minus"] : List Str)) from inV_str f.s ["get", "set", "plus", "minus"]]
    have sq := same_new (o := .lst [V.str "get", .str "set", .str "plus", .str "minus"]) hq1
    have q : ∀ (H' : Hp) (x : Str), Same (upd H q1 (.lst [V.str "get", .str "set", .str "plus", .str "minus"])) H' → x.cps.toList = (Tm.form f ts).cl → Q (.str x) H' := fun H' x s e => q H' x (sq.trans s) e
    have hs := Same.seqT sq hs
    have dr := DtAll.same dr sq
    rw [decide_eq_true (show f.s ∈ (["get", "set", "plus", "minus"] : List Str) by cases f <;> decide +kernel)]
    refine iteT ?_
    generalize upd H q1 (.lst [V.str "get", .str "set", .str "plus", .str "minus"]) = H at q hs dr
    rw [Tm.ds_map] at dr
    have hys := dr
    have ly := hys.lenD
    rw [List.length_map] at ly
    have hne : ts ≠ [] := ha.1
    cases ts with
    | nil => exact absurd rfl hne
    | cons t0 tr =>
    cases ys with
    | nil => cases ly
    | cons y0 yr =>
    have hcl := cl_len tok
    have ecl : (Tm.form f (t0 :: tr)).cl = 40 :: (glue (f.s.cps.toList :: (t0 :: tr).map Tm.cl) ++ [41]) := by
      rw [cl_form]
      show 40 :: (f.s.cps.toList ++ ((t0.cl :: tr.map Tm.cl).flatMap (32 :: ·) ++ [41])) = 40 :: ((f.s.cps.toList ++ ((t0.cl :: tr.map Tm.cl)).flatMap (32 :: ·)) ++ [41])
      rw [List.append_assoc]
    have gl : (glue (f.s.cps.toList :: (t0 :: tr).map Tm.cl)).length ≤ 400000 := by
      rw [ecl, List.length_cons, List.length_append] at hcl
      omega
    have hl8 : (t0 :: tr).length ≤ 8 := Nat.le_trans (show _ ≤ 3 from ha.2) (by decide)
    generalize hts : t0 :: tr = ts at *
    refine ⟨⟨_, rfl⟩, ⟨_, rfl, small (by show 1 ≤ _; decide), fun p1 hp1 => ?_⟩⟩
    have s1 := same_new (o := .lst [.str f.s]) hp1
    have hp1' : (upd H p1 (.lst [.str f.s])) p1 = some (.lst [.str f.s]) := upd_same
    refine ⟨_, rfl, _, rfl, a, _, rfl, Same.seqT s1 hs, fun z => ?_, fun b0 hb0 => ?_⟩
    · have e := z.1
      revert e
      show (HT.sIx ((y0 :: yr).length + 1) 0 (some 1) = 0) → False
      unfold HT.sIx
      intro e
      simp at e
    have ec : cutV (V.str f.s :: (y0 :: yr)) (some 1) none = y0 :: yr := by
      unfold cutV HT.sIx
      simp
    rw [ec]
    have s1 := s1.trans (same_new (o := .tup (y0 :: yr)) hb0)
    have hp1' := (same_new (o := .tup (y0 :: yr)) hb0) _ _ hp1'
    have hb1 : SqT K (upd (upd H p1 (.lst [.str f.s])) b0 (.tup (y0 :: yr))) b0 (y0 :: yr) := SqT.of upd_same
    refine ⟨b0, rfl, ⟨_, hb1⟩, fun D hD => lcS (K := K) (walk_tup (xs := y0 :: yr)) hD (by omega) (fun ds => ∃ xs : List Str, ds = xs.map PyData.str ∧ xs.map (fun s => s.cps.toList) = (ts.take xs.length).map Tm.cl) ⟨[], rfl, rfl⟩ (fun H' s => Same.seqT s hb1) ?_ ?_⟩
    · rintro i x H1 H2 ds R hi s ⟨rfl, gx⟩ ⟨xs, rfl, jx⟩ len r
      rw [List.length_map] at len
      obtain ⟨e, ge, dx⟩ := DtAll.getX hys gx
      rw [List.getElem?_map] at ge
      cases e0 : ts[i]? with
      | none => rw [e0] at ge; cases ge
      | some en =>
        rw [e0] at ge
        cases ge
        have hk : en ∈ (Tm.form f ts).kids := List.mem_of_getElem? e0
        have ks := kid_size hk
        have kh := Tm.ht_kid hk
        refine ⟨rfl, _, rfl, x, en, sig, ws, rfl, (dx.same s1).same s, tok.kid hk, by omega, by omega, fun H3 z s3 ez => ?_⟩
        refine r (.str z) _ H3 s3 (.str _) ⟨xs ++ [z], by rw [List.map_append]; rfl, ?_⟩
        rw [List.length_append, List.length_singleton, List.take_add_one, len, e0, List.map_append, List.map_append]
        rw [len] at jx
        rw [jx]
        show _ ++ [z.cps.toList] = _ ++ [en.cl]
        rw [ez]
    · rintro H' vs ds s hw da len ⟨xs, rfl, jx⟩
      obtain rfl := da.strsE
      rw [List.length_map] at len
      rw [len, ly, List.take_length] at jx
      have hp2 : H' p1 = some (.lst [.str f.s]) := s _ _ hp1'
      refine ⟨p1, D, _, _, rfl, rfl, hp2, hw, small (by rw [List.length_map, len, ly]; show 1 + _ ≤ _; omega), fun p3 hp3 => ?_⟩
      have s3 : Same H (upd H' p3 (.lst ([.str f.s] ++ xs.map V.str))) := (s1.trans s).trans (same_new hp3)
      have jx2 : (f.s :: xs).map (fun s => s.cps.toList) = f.s.cps.toList :: ts.map Tm.cl := by rw [List.map_cons, jx]
      have sl := glue_len (f.s.cps.toList :: ts.map Tm.cl)
      have eJ : (Txt.join " " (f.s :: xs)).cps.toList = glue (f.s.cps.toList :: ts.map Tm.cl) := by rw [txt_glue, jx2]
      have lJ : (Txt.join " " (f.s :: xs)).length ≤ 400000 := by rw [len_list, eJ]; exact gl
      refine ⟨" ", p3, f.s :: xs, rfl, rfl, .inl (SqL.of upd_same), ?_, _, _, rfl, rfl, small (by show 1 + _ ≤ _; omega), _, _, rfl, rfl, small (by rw [Str.length_append]; show 1 + _ + 1 ≤ _; omega), q _ _ s3 ?_⟩
      · rw [len_map, jx2, List.length_cons, len, ly]
        show _ + _ * 1 ≤ _
        omega
      · show ((("(" : Str) ++ Txt.join " " (f.s :: xs)) ++ ")").cps.toList = _
        rw [app_list, pfx_list (by decide +kernel : ("(" : Str).cps.toList = [40]), eJ, show (")" : Str).cps.toList = [41] by decide +kernel, ecl]; rfl
  | int m =>
    unfold Tm.d at hv
    obtain ⟨a, x, y, rfl, hs, h1, h2⟩ := Dt.t2 hv
    obtain rfl := h1.s
    obtain rfl := h2.i
    have hm : -1000000000000000 < m ∧ m < 1000000000000000 := ha
    refine vTx rfl hs (atI_nat (j := 0) rfl) ⟨_, rfl, rfl, _, rfl, sT rfl (vTx rfl hs (atI_nat (j := 1) rfl) ⟨_, rfl, log_small (by omega), q _ _ (Same.refl _) (by rw [Tm.cl])⟩)⟩
  | addr m =>
    unfold Tm.d at hv
    obtain ⟨a, x, y, rfl, hs, h1, h2⟩ := Dt.t2 hv
    obtain rfl := h1.s
    obtain rfl := h2.i
    have hm : 0 ≤ m ∧ m < 1000000000 := ha
    have b := txt_len (n := m) ⟨by omega, by omega⟩
    refine vTx rfl hs (atI_nat (j := 0) rfl) ⟨_, rfl, rfl, _, rfl, sF (by decide +kernel) ⟨_, rfl, rfl, _, rfl, sT rfl (vTx rfl hs (atI_nat (j := 1) rfl) ⟨_, rfl, log_small (by omega), _, _, rfl, rfl, small (by show 1 + (txt m).length ≤ _; omega), q _ _ (Same.refl _) (by rw [Tm.cl, pfx_list (by decide +kernel : ("@" : Str).cps.toList = [64])])⟩)⟩⟩
  | name m =>
    unfold Tm.d at hv
    obtain ⟨a, x, y, rfl, hs, h1, h2⟩ := Dt.t2 hv
    obtain rfl := h1.s
    obtain rfl := h2.s
    have hm : m.length ≤ 12 := ha.2.hi
    refine vTx rfl hs (atI_nat (j := 0) rfl) ⟨_, rfl, rfl, _, rfl, sF (by decide +kernel) ⟨_, rfl, rfl, _, rfl, sF (by decide +kernel) ⟨_, rfl, rfl, _, rfl, sT rfl (vTx rfl hs (atI_nat (j := 1) rfl) ⟨_, _, rfl, rfl, small (by show 1 + m.length ≤ _; omega), q _ _ (Same.refl _) (by rw [Tm.cl, pfx_list (by decide +kernel : ("'" : Str).cps.toList = [39])])⟩)⟩⟩⟩
  | var m =>
    unfold Tm.d at hv
    obtain ⟨a, x, y, rfl, hs, h1, h2⟩ := Dt.t2 hv
    obtain rfl := h1.s
    obtain rfl := h2.s
    have hm : m.length ≤ 12 := Wd.hi ha.2
    refine vTx rfl hs (atI_nat (j := 0) rfl) ⟨_, rfl, rfl, _, rfl, sF (by decide +kernel) ⟨_, rfl, rfl, _, rfl, sF (by decide +kernel) ⟨_, rfl, rfl, _, rfl, sF (by decide +kernel) ⟨_, rfl, rfl, _, rfl, sT rfl (vTx rfl hs (atI_nat (j := 1) rfl) ⟨_, _, rfl, rfl, small (by show 1 + m.length ≤ _; omega), q _ _ (Same.refl _) (by rw [Tm.cl, pfx_list (by decide +kernel : ("$" : Str).cps.toList = [36])])⟩)⟩⟩⟩⟩
  | map es =>
    unfold Tm.d at hv
    obtain ⟨a, x, y, rfl, hs, h1, h2⟩ := Dt.t2 hv
    obtain rfl := h1.s
    obtain ⟨b, ys, rfl, hb, hys⟩ := Dt.tn h2
    rw [Tm.es_map] at hys
    have ly : ys.length = es.length := by rw [hys.lenD, List.length_map]
    have hl : es.length ≤ 8 := ha.1
    refine vTx rfl hs (atI_nat (j := 0) rfl) ⟨_, rfl, rfl, _, rfl, sF (by decide +kernel) ⟨_, rfl, rfl, _, rfl, sF (by decide +kernel) ⟨_, rfl, rfl, _, rfl, sF (by decide +kernel) ⟨_, rfl, rfl, _, rfl, sF (by decide +kernel) ⟨_, rfl, rfl, _, rfl, sT rfl ?_⟩⟩⟩⟩⟩
    have hcl := cl_len tok
    have ecl : (Tm.map es).cl = 123 :: (glue (es.map fun e => entL (e.1, e.2.cl)) ++ [125]) := by
      rw [cl_map]; show 123 :: (glue ((es.map fun e => (e.1, e.2.cl)).map entL) ++ [125]) = _
      rw [List.map_map]; rfl
    have gl : (glue (es.map fun e => entL (e.1, e.2.cl))).length ≤ 400000 := by
      rw [ecl, List.length_cons, List.length_append] at hcl
      omega
    refine ⟨⟨_, rfl⟩, vTx rfl hs (atI_nat (j := 1) rfl) ⟨b, rfl, ⟨_, hb⟩, fun D hD => lcS (K := K) (walk_tup (xs := ys)) hD (by omega) (fun ds => ∃ xs : List Str, ds = xs.map PyData.str ∧ xs.map (fun s => s.cps.toList) = (es.take xs.length).map fun e => entL (e.1, e.2.cl)) ⟨[], rfl, rfl⟩ (fun H' s => Same.seqT s hb) ?_ ?_⟩⟩
    · rintro i x H1 H2 ds R hi s ⟨rfl, gx⟩ ⟨xs, rfl, jx⟩ len r
      rw [List.length_map] at len
      obtain ⟨e, ge, dx⟩ := DtAll.getX hys gx
      rw [List.getElem?_map] at ge
      cases e0 : es[i]? with
      | none => rw [e0] at ge; cases ge
      | some en =>
        rw [e0] at ge
        cases ge
        have hm : en ∈ es := List.mem_of_getElem? e0
        have hk : en.2 ∈ (Tm.map es).kids := List.mem_map.mpr ⟨en, hm, rfl⟩
        have hw : en.1.length ≤ 12 := Wd.hi (ha.2.1 en hm).2
        have ks := kid_size hk
        have kh := Tm.ht_kid hk
        obtain ⟨a1, x1, y1, rfl, hs1, k1, k2⟩ := Dt.t2 (dx.same s)
        obtain rfl := k1.s
        refine ⟨rfl, vTx rfl hs1 (atI_nat (j := 0) rfl) ⟨_, _, rfl, rfl, small (by show 1 + en.1.length ≤ _; omega), _, _, rfl, rfl, small (by rw [Str.length_append]; show 1 + en.1.length + 1 ≤ _; omega), ?_⟩⟩
        refine vTx rfl hs1 (atI_nat (j := 1) rfl) ⟨y1, en.2, sig, ws, rfl, k2, tok.kid hk, by omega, by omega, fun H3 z s3 ez => ?_⟩
        have kcl := cl_len (tok.kid hk)
        have zl : z.length ≤ 400000 := by rw [len_list, ez]; omega
        refine ⟨_, _, rfl, rfl, small (by rw [Str.length_append, Str.length_append]; show 1 + en.1.length + 1 + z.length ≤ _; omega), ?_⟩
        refine r (.str ("'" ++ en.1 ++ " " ++ z)) _ H3 s3 (.str _) ⟨xs ++ ["'" ++ en.1 ++ " " ++ z], by rw [List.map_append]; rfl, ?_⟩
        rw [List.length_append, List.length_singleton, List.take_add_one, len, e0, List.map_append, List.map_append]
        rw [len] at jx
        rw [jx]
        show _ ++ [((("'" ++ en.1 : Str) ++ " ") ++ z).cps.toList] = _ ++ [entL (en.1, en.2.cl)]
        rw [app_list, app_list, pfx_list (by decide +kernel : ("'" : Str).cps.toList = [39]), ez, show (" " : Str).cps.toList = [32] by decide +kernel]
        unfold entL
        simp only [List.cons_append, List.append_assoc, List.nil_append]
    · rintro H' vs ds s hw da len ⟨xs, rfl, jx⟩
      obtain rfl := da.strsE
      rw [List.length_map] at len
      rw [len, ly, List.take_length] at jx
      have sl := glue_len (es.map fun e => entL (e.1, e.2.cl))
      have eJ : (Txt.join " " xs).cps.toList = glue (es.map fun e => entL (e.1, e.2.cl)) := by rw [txt_glue, jx]
      have lJ : (Txt.join " " xs).length ≤ 400000 := by rw [len_list, eJ]; exact gl
      refine ⟨" ", D, xs, rfl, rfl, .inl (SqL.of hw), ?_, _, _, rfl, rfl, small (by show 1 + _ ≤ _; omega), _, _, rfl, rfl, small (by rw [Str.length_append]; show 1 + _ + 1 ≤ _; omega), q _ _ s ?_⟩
      · rw [len_map, jx]
        show _ + _ * 1 ≤ _
        omega
      · show ((("{" : Str) ++ Txt.join " " xs) ++ "}").cps.toList = _
        rw [app_list, pfx_list (by decide +kernel : ("{" : Str).cps.toList = [123]), eJ, show ("}" : Str).cps.toList = [125] by decide +kernel, ecl]; rfl
  | node c ts =>
    unfold Tm.d at hv
    obtain ⟨a, x, y, z, rfl, hs, h1, h2, h3⟩ := Dt.t3 hv
    obtain rfl := h1.s
    obtain rfl := h2.s
    obtain ⟨b, ys, rfl, hb, hys⟩ := Dt.tn h3
    rw [Tm.ds_map] at hys
    have ly : ys.length = ts.length := by rw [hys.lenD, List.length_map]
    have hc : c.length ≤ 12 := Wd.hi ha.1
    refine vTx rfl hs (atI_nat (j := 0) rfl) ⟨_, rfl, rfl, _, rfl, sF (by decide +kernel) ⟨_, rfl, rfl, _, rfl, sF (by decide +kernel) ⟨_, rfl, rfl, _, rfl, sF (by decide +kernel) ⟨_, rfl, rfl, _, rfl, sF (by decide +kernel) ⟨_, rfl, rfl, _, rfl, sF (by decide +kernel) ?_⟩⟩⟩⟩⟩
    refine ⟨_, rfl, small (by show 4 ≤ _; decide), fun q1 hq1 => ⟨q1, _, rfl, .inl (SqL.of upd_same), rfl, flat_strs ["get", "set", "plus", "minus"], _, rfl, ?_⟩⟩
    rw [show inV (V.str "node") [V.str "get", .str "set", .str "plus", .str "minus"] = decide (("node" : Str) ∈ (["get", "set", "plus", "minus"] : List Str)) from inV_str "node" ["get", "set", "plus", "minus"]]
    have sq := same_new (o := .lst [V.str "get", .str "set", .str "plus", .str "minus"]) hq1
    have q : ∀ (H' : Hp) (x : Str), Same (upd H q1 (.lst [V.str "get", .str "set", .str "plus", .str "minus"])) H' → x.cps.toList = (Tm.node c ts).cl → Q (.str x) H' := fun H' x s e => q H' x (sq.trans s) e
    have hs := Same.seqT sq hs
    have hb := Same.seqT sq hb
    have hys : DtAll K (upd H q1 (.lst [V.str "get", .str "set", .str "plus", .str "minus"])) ys (ts.map Tm.d) := hys.same sq
    rw [decide_eq_false (by decide +kernel)]
    refine iteF ?_
    generalize upd H q1 (.lst [V.str "get", .str "set", .str "plus", .str "minus"]) = H at q hs hb hys
    refine vTx rfl hs (atI_nat (j := 2) rfl) ⟨!ys.isEmpty, .inr (.inl ⟨ys, hb, rfl⟩), ?_⟩
    cases ts with
    | nil =>
      cases ys with
      | cons _ _ => cases ly
      | nil =>
        refine iteT (vTx rfl hs (atI_nat (j := 1) rfl) (q _ _ (Same.refl _) ?_))
        rw [cl_node]; rfl
    | cons t0 tr =>
    cases ys with
    | nil => cases ly
    | cons y0 yr =>
    refine iteF ?_
    have hcl := cl_len tok
    have ecl : (Tm.node c (t0 :: tr)).cl = 40 :: (glue (c.cps.toList :: (t0 :: tr).map Tm.cl) ++ [41]) := by
      rw [cl_node]
      show 40 :: (c.cps.toList ++ ((t0.cl :: tr.map Tm.cl).flatMap (32 :: ·) ++ [41])) = 40 :: ((c.cps.toList ++ ((t0.cl :: tr.map Tm.cl)).flatMap (32 :: ·)) ++ [41])
      rw [List.append_assoc]
    have gl : (glue (c.cps.toList :: (t0 :: tr).map Tm.cl)).length ≤ 400000 := by
      rw [ecl, List.length_cons, List.length_append] at hcl
      omega
    have hl8 : (t0 :: tr).length ≤ 8 := ha.2.2
    generalize hts : t0 :: tr = ts at *
    refine ⟨⟨_, rfl⟩, vTx rfl hs (atI_nat (j := 1) rfl) ⟨small (by show 1 ≤ _; decide), fun p1 hp1 => ?_⟩⟩
    have s1 := same_new (o := .lst [.str c]) hp1
    have hb1 := Same.seqT s1 hb
    have hp1' : (upd H p1 (.lst [.str c])) p1 = some (.lst [.str c]) := upd_same
    refine vTx rfl (Same.seqT s1 hs) (atI_nat (j := 2) rfl) ⟨b, rfl, ⟨_, hb1⟩, fun D hD => lcS (K := K) (walk_tup (xs := y0 :: yr)) hD (by omega) (fun ds => ∃ xs : List Str, ds = xs.map PyData.str ∧ xs.map (fun s => s.cps.toList) = (ts.take xs.length).map Tm.cl) ⟨[], rfl, rfl⟩ (fun H' s => Same.seqT s hb1) ?_ ?_⟩
    · rintro i x H1 H2 ds R hi s ⟨rfl, gx⟩ ⟨xs, rfl, jx⟩ len r
      rw [List.length_map] at len
      obtain ⟨e, ge, dx⟩ := DtAll.getX hys gx
      rw [List.getElem?_map] at ge
      cases e0 : ts[i]? with
      | none => rw [e0] at ge; cases ge
      | some en =>
        rw [e0] at ge
        cases ge
        have hk : en ∈ (Tm.node c ts).kids := List.mem_of_getElem? e0
        have ks := kid_size hk
        have kh := Tm.ht_kid hk
        refine ⟨rfl, _, rfl, x, en, sig, ws, rfl, (dx.same s1).same s, tok.kid hk, by omega, by omega, fun H3 z s3 ez => ?_⟩
        refine r (.str z) _ H3 s3 (.str _) ⟨xs ++ [z], by rw [List.map_append]; rfl, ?_⟩
        rw [List.length_append, List.length_singleton, List.take_add_one, len, e0, List.map_append, List.map_append]
        rw [len] at jx
        rw [jx]
        show _ ++ [z.cps.toList] = _ ++ [en.cl]
        rw [ez]
    · rintro H' vs ds s hw da len ⟨xs, rfl, jx⟩
      obtain rfl := da.strsE
      rw [List.length_map] at len
      rw [len, ly, List.take_length] at jx
      have hp2 : H' p1 = some (.lst [.str c]) := s _ _ hp1'
      refine ⟨p1, D, _, _, rfl, rfl, hp2, hw, small (by rw [List.length_map, len, ly]; show 1 + _ ≤ _; omega), fun p3 hp3 => ?_⟩
      have s3 : Same H (upd H' p3 (.lst ([.str c] ++ xs.map V.str))) := (s1.trans s).trans (same_new hp3)
      have jx2 : (c :: xs).map (fun s => s.cps.toList) = c.cps.toList :: ts.map Tm.cl := by rw [List.map_cons, jx]
      have sl := glue_len (c.cps.toList :: ts.map Tm.cl)
      have eJ : (Txt.join " " (c :: xs)).cps.toList = glue (c.cps.toList :: ts.map Tm.cl) := by rw [txt_glue, jx2]
      have lJ : (Txt.join " " (c :: xs)).length ≤ 400000 := by rw [len_list, eJ]; exact gl
      refine ⟨" ", p3, c :: xs, rfl, rfl, .inl (SqL.of upd_same), ?_, _, _, rfl, rfl, small (by show 1 + _ ≤ _; omega), _, _, rfl, rfl, small (by rw [Str.length_append]; show 1 + _ + 1 ≤ _; omega), q _ _ s3 ?_⟩
      · rw [len_map, jx2, List.length_cons, len, ly]
        show _ + _ * 1 ≤ _
        omega
      · show ((("(" : Str) ++ Txt.join " " (c :: xs)) ++ ")").cps.toList = _
        rw [app_list, pfx_list (by decide +kernel : ("(" : Str).cps.toList = [40]), eJ, show (")" : Str).cps.toList = [41] by decide +kernel, ecl]; rfl
end
end PK
namespace PK
open PySem L2 _root_.TL
/-! what a term has -/
/-- a loop within a comprehension, whatever its step asks -/
theorem it_W {J : It} {n : Nat} {G : Hp → Prop} {Y : Nat → Hp → V → Hp → Prop} (w : Walk J n G Y) (B : (Hp → Prop) → V → Hp → Prop) {H0 : Hp} {Qd : Hp → Prop} (Pv : Nat → Hp → Prop) (h0 : Pv 0 H0) (hG : ∀ i H, i ≤ n → Pv i H → G H) (hs : ∀ i x H H', i < n → Pv i H → Y i H x H' → B (Pv (i + 1)) x H') (hd : ∀ H, Pv n H → Qd H) :
    ∃ W : Nat → Nat → Hp → Prop, (∃ m, W 0 m H0) ∧ ∀ i m H, W i m H → (J.stop i H ∧ Qd H) ∨ (J.go i H ∧ ∃ Nx : Hp → Prop, (∀ H', Nx H' → ∃ m', m' < m ∧ W (i + 1) m' H') ∧ ∀ x H', J.yld i H x H' → B Nx x H') := by
  refine ⟨fun i m H => m = n - i ∧ i ≤ n ∧ Pv i H, ⟨n, by simp, Nat.zero_le _, h0⟩, ?_⟩
  rintro i m H ⟨rfl, hi, p⟩
  have q := hG i H hi p
  by_cases hlt : i < n
  · refine .inr ⟨w.goes i H hlt q, Pv (i + 1), fun H' p' => ⟨n - (i + 1), by omega, rfl, hlt, p'⟩, fun x H' y => hs i x H H' hlt p (w.yields i H x H' hlt q y)⟩
  · have e : i = n := by omega
    subst e
    exact .inl ⟨w.stops H q, hd H p⟩
theorem Fm.ne_meta (f : Fm) : f.s ≠ "meta" := by cases f <;> decide +kernel
theorem Tm.hd_meta {t : Tm} (h : ∀ s, t ≠ .var s) : t.hd ≠ "meta" := by
  cases t with
  | int n => exact (show ("int" : Str) ≠ "meta" by decide +kernel)
  | name n => exact (show ("name" : Str) ≠ "meta" by decide +kernel)
  | addr n => exact (show ("addr" : Str) ≠ "meta" by decide +kernel)
  | var n => exact absurd rfl (h n)
  | map n => exact (show ("map" : Str) ≠ "meta" by decide +kernel)
  | node c ts => exact (show ("node" : Str) ≠ "meta" by decide +kernel)
  | form f ts => exact f.ne_meta
theorem Tm.vor (t : Tm) : (∃ s, t = .var s) ∨ ∀ s, t ≠ .var s := by
  cases t with
  | var s => exact .inl ⟨s, rfl⟩
  | _ => exact .inr fun s e => nomatch e
theorem tk_updL {H H1 : Hp} {D : Addr} {vs us : List V} (t : GenF.TK H H1) (hD : H1 D = some (.lst vs)) : GenF.TK H (upd H1 D (.lst us)) := fun b xs r => by
  have hb : b ≠ D := fun e => by
    subst e
    rcases t _ xs r with h | ⟨o, h⟩
    · rw [hD] at h; cases h
    · rw [hD] at h; cases h
  exact (t b xs r).elim (fun h => .inl (by rw [upd_ne hb]; exact h)) fun ⟨o, h⟩ => .inr ⟨o, by rw [upd_ne hb]; exact h⟩
def firsts (l : List Str) : List Str := l.foldl (fun acc x => if x ∈ acc then acc else acc ++ [x]) []
theorem firsts_snoc (l : List Str) (x : Str) : firsts (l ++ [x]) = if x ∈ firsts l then firsts l else firsts l ++ [x] := by
  unfold firsts
  rw [List.foldl_append]; rfl
def rowB (s : Str) : Key × V := (.inr s, .bl true)
theorem put_rowB (l : List Str) (s : Str) : putK (l.map rowB) (Sum.inr s : Key) (.bl true) = (if s ∈ l then l else l ++ [s]).map rowB := by
  by_cases h : s ∈ l
  · rw [if_pos h]
    unfold putK
    rw [if_pos (by rw [List.any_eq_true]; exact ⟨rowB s, List.mem_map.mpr ⟨s, h, rfl⟩, decide_eq_true rfl⟩), List.map_map]
    refine List.map_congr_left fun x _ => ?_
    show (if (Sum.inr x : Key) = .inr s then (Sum.inr x, V.bl true) else rowB x) = rowB x
    split <;> rfl
  · rw [if_neg h]
    unfold putK
    rw [if_neg, List.map_append]; rfl
    rw [List.any_eq_true]
    rintro ⟨e, he, hd⟩
    obtain ⟨x, hx, rfl⟩ := List.mem_map.mp he
    have : (Sum.inr x : Key) = .inr s := of_decide_eq_true hd
    exact h (by rw [← Sum.inr.inj this]; exact hx)
theorem firsts_len (l : List Str) : (firsts l).length ≤ l.length := by
  have : ∀ (l acc : List Str), (l.foldl (fun acc x => if x ∈ acc then acc else acc ++ [x]) acc).length ≤ acc.length + l.length := fun l => by
    induction l with
    | nil => intro acc; exact Nat.le_refl _
    | cons a r ih =>
      intro acc
      refine Nat.le_trans (ih _) ?_
      show (if a ∈ acc then acc else acc ++ [a]).length + r.length ≤ acc.length + (a :: r).length
      split
      · rw [List.length_cons]; omega
      · rw [List.length_append]
        show acc.length + 1 + r.length ≤ acc.length + (r.length + 1); omega
  have := this l []
  rw [List.length_nil, Nat.zero_add] at this
  exact this
def vW (k : Tm) : Option Str := match k with | .var s => some s | _ => none
def lvl (l : List Tm) : List Tm := (l.map Tm.kids).flatten
def hmx (l : List Tm) : Nat := (l.map Tm.ht).foldr max 0
theorem hmx_app (a b : List Tm) : hmx (a ++ b) = max (hmx a) (hmx b) := by
  unfold hmx
  induction a with
  | nil => simp
  | cons x r ih => rw [List.cons_append, List.map_cons, List.map_cons, List.foldr_cons, List.foldr_cons, ih]; omega
theorem hmx_lvl : ∀ l : List Tm, hmx (lvl l) = hmx l - 1
  | [] => rfl
  | t :: r => by
    have ih := hmx_lvl r
    show hmx (t.kids ++ lvl r) = _
    rw [hmx_app, ih]
    show max ((t.kids.map Tm.ht).foldr max 0) (hmx r - 1) = max t.ht (hmx r) - 1
    have := Tm.ht_eq t
    omega
theorem hmx_pos {l : List Tm} (h : l ≠ []) : 1 ≤ hmx l := by
  cases l with
  | nil => exact absurd rfl h
  | cons t r =>
    show 1 ≤ max t.ht (hmx r)
    have := t.ht_pos; omega
def szs (l : List Tm) : Nat := (l.map Tm.size).sum
theorem szs_len (l : List Tm) : l.length ≤ szs l := by
  induction l with
  | nil => exact Nat.le_refl _
  | cons t r ih => have := t.size_pos; show r.length + 1 ≤ t.size + szs r; omega
theorem szs_lvl (l : List Tm) : szs (lvl l) + l.length = szs l := by
  induction l with
  | nil => rfl
  | cons t r ih =>
    have e : szs (lvl (t :: r)) = (t.kids.map Tm.size).sum + szs (lvl r) := by
      show ((t.kids ++ lvl r).map Tm.size).sum = _
      rw [List.map_append, List.sum_append]; rfl
    have h := Tm.size_eq t
    rw [e]
    show _ + (r.length + 1) = t.size + szs r
    omega
def spSize (K : PySem.W.Frag) : Sp := fun vs H Q _ => ∃ (v : V) (t : Tm), vs = [v] ∧ Dt K H v t.d ∧ t.size ≤ 1000 ∧ ∀ H', Same H H' → Q (.int (t.size : Nat)) H'
def spHeight (K : PySem.W.Frag) : Sp := fun vs H Q _ => ∃ (v : V) (t : Tm), vs = [v] ∧ Dt K H v t.d ∧ t.size ≤ 1000 ∧ ∀ H', Same H H' → Q (.int ((t.ht - 1 : Nat) : Nat)) H'
def Tm.wordsOf (t : Tm) : List Str := t.parts.filterMap vW
def spWords (K : PySem.W.Frag) : Sp := fun vs H Q _ => ∃ (v : V) (t : Tm), vs = [v] ∧ Dt K H v t.d ∧ t.size ≤ 1000 ∧ ∀ (H' : Hp) (p : Addr), Same H H' → H p = none → H' p = some (.lst (t.wordsOf.map V.str)) → Q (.ref p) H'
section
variable {P : Program} {w : World} {K : PySem.W.Frag} {mg : Str → Option Value} {base : Heap} {aS CL CP : Addr}
abbrev s_size : Stmt := topS 16
theorem sc_size : FnScope ["term", "many", "_"] ["term"] (defScope s_size) := ⟨rfl, rfl, rfl, by decide +kernel, rfl, by decide +kernel, by decide +kernel⟩
-- slots: 0:term 1:many 2:_
abbrev s_height : Stmt := topS 17
theorem sc_height : FnScope ["term", "levels", "level", "part", "child"] ["term"] (defScope s_height) := ⟨rfl, rfl, rfl, by decide +kernel, rfl, by decide +kernel, by decide +kernel⟩
-- slots: 0:term 1:levels 2:level 3:part(comp) 4:child(comp)
abbrev s_all_words : Stmt := topS 18
theorem sc_all_words : FnScope ["term", "part"] ["term"] (defScope s_all_words) := ⟨rfl, rfl, rfl, by decide +kernel, rfl, by decide +kernel, by decide +kernel⟩
-- slots: 0:term 1:part(comp)
abbrev s_metavariables : Stmt := topS 19
theorem sc_metavariables : FnScope ["term", "word"] ["term"] (defScope s_metavariables) := ⟨rfl, rfl, rfl, by decide +kernel, rfl, by decide +kernel, by decide +kernel⟩
-- slots: 0:term 1:word(comp)
abbrev s_is_ground : Stmt := topS 20
theorem sc_is_ground : FnScope ["term"] ["term"] (defScope s_is_ground) := ⟨rfl, rfl, rfl, by decide +kernel, rfl, by decide +kernel, by decide +kernel⟩
-- slots: 0:term
abbrev s_is_pattern : Stmt := topS 21
theorem sc_is_pattern : FnScope ["term", "part"] ["term"] (defScope s_is_pattern) := ⟨rfl, rfl, rfl, by decide +kernel, rfl, by decide +kernel, by decide +kernel⟩
-- slots: 0:term 1:part(comp)
theorem ok_size {f : Addr} {fd : FuncData} (F : Fun K "size" "size" s_size f fd) (T : TxtW K mg aS CL CP) (C_parts_of : GenF.CalG P w K mg base 3 "parts_of" (spParts K)) : FnOk P w K mg base CX0 4 f fd ["term"] (spSize K) := by
  refine F.ok sc_size (fun vs H Q E h => ?_) (fun cdv A outer s H vs Q E hr h => ?_)
  · obtain ⟨_, _, rfl, _⟩ := h
    rfl
  obtain ⟨v, t, rfl, hv, hsz, q⟩ := h
  refine ⟨_, (pss_cons (ps_set (i := 1) sc_size.nd rfl (Or.inl rfl) pe_int)
    (pss_cons (GenF.ps_forG rfl (GenF.pig_c C_parts_of hr (by decide) rfl (pa_cons (pv 0) pa_nil)) (pg_name (i := 2) sc_size.nd rfl (Or.inl rfl)) (pss_one (ps_aug (i := 1) sc_size.nd rfl (Or.inl rfl) pe_int ip_add)))
    (pss_one (ps_ret (pv 1))))), ?_⟩
  refine ⟨_, rfl, _, _, ⟨v, t, rfl, hv, by omega, rfl, rfl⟩, fun G e1 e2 e3 => ?_⟩
  refine for_it (GenF.walk_genE e1 e2 e3) (fun i σ H' => ∃ o : Option V, σ = [some v, some (.int (i : Nat)), o] ∧ Same H H' ∧ GenF.TK H H') ⟨none, rfl, Same.refl _, GenF.TK.refl _⟩ (fun i σ H' hi h => by obtain ⟨_, _, _, k⟩ := h; exact k) ?_ ?_
  · rintro i z σ H3 H2 hi ⟨o, rfl, s3, tk⟩ ⟨rfl, k, gk, dk⟩
    exact ⟨_, rfl, _, _, rfl, rfl, some z, rfl, s3, tk⟩
  · rintro σ H' ⟨o, rfl, s3, tk⟩
    exact ⟨_, rfl, q H' s3⟩
theorem ok_height {f : Addr} {fd : FuncData} (F : Fun K "height" "height" s_height f fd) (T : TxtW K mg aS CL CP) (C_children : C8.Cal P w K mg base 1 "children" (spKidsV K) []) : FnOk P w K mg base CX0 2 f fd ["term"] (spHeight K) := by
  refine F.ok sc_height (fun vs H Q E h => ?_) (fun cdv A outer s H vs Q E hr h => ?_)
  · obtain ⟨_, _, rfl, _⟩ := h
    rfl
  obtain ⟨v, t, rfl, hv, hsz, q⟩ := h
  refine ⟨_, (pss_cons (ps_set (i := 1) sc_height.nd rfl (Or.inl rfl) pe_int)
    (pss_cons (ps_set (i := 2) sc_height.nd rfl (Or.inl rfl) (pe_callTy call_list_of (by rfl) T.z_list (by decide +kernel) (pa_cons (C8.pe_c C_children hr (by decide) rfl (pa_cons (pv 0) pa_nil)) pa_nil)))
    (pss_cons (ps_while PassesOwn.never (pt_truth (pv 2) (by intro _; rfl)) (pss_cons (ps_aug (i := 1) sc_height.nd rfl (Or.inl rfl) pe_int ip_add)
    (pss_one (ps_setLc2 (i := 2) (wi1 := iTup K (tCall (spKidsV K) [] C8.E0 (tCons (tVar 3) tNil))) (own := [("part", 3), ("child", 4)]) (vs1 := [4]) (g := (gName 3)) (g1 := (gName 4)) (tt := tYes) (tt1 := tYes) (by rfl) sc_height.nd rfl rfl (sw_true rfl rfl rfl (by decide +kernel)) (pi_list (pv 2)) (blkOk_by (N := ["term", "levels", "level", "part", "child"]) (sc := defScope s_height) (by decide +kernel)) (by decide) (fun _ _ _ _ _ => (pg_name (i := 3) sc_height.nd rfl (Or.inl rfl))) (fun _ _ _ _ _ => pts_nil) (fun _ _ _ _ _ => (pi_tup (C8.pe_c C_children hr (by decide) rfl (pa_cons (pv 3) pa_nil)))) (fun _ _ _ _ _ => (pg_name (i := 4) sc_height.nd rfl (Or.inl rfl))) (fun _ _ _ _ _ => pts_nil) (fun _ _ _ _ _ => (pv 4))))))
    (pss_one (ps_ret (pv 1)))))), ?_⟩
  have hkl : t.kids.length ≤ 10000000 := by
    have h1 := szs_len t.kids
    have h2 := Tm.size_eq t
    unfold szs at h1
    omega
  refine ⟨_, rfl, v, t, H, rfl, fun _ _ h => h, hv, hkl, fun H1 p wk s1 hk dk => ⟨p, wk, rfl, .inr hk, fun L hL => ?_⟩⟩
  have dk1 := (dk.same s1).same (same_new (o := .lst wk) hL)
  have hsz0 := Tm.size_eq t
  have hht := Tm.ht_eq t
  refine ⟨fun m σ H' => ∃ (lv : Nat) (l : List Tm) (L : Addr) (xs : List V) (o1 o2 : Option V), m = hmx l ∧ σ = [some v, some (.int (lv : Nat)), some (.ref L), o1, o2] ∧ Same H H' ∧ H' L = some (.lst xs) ∧ DtAll K H' xs (l.map Tm.d) ∧ lv + hmx l = t.ht - 1 ∧ szs l ≤ 1000, ⟨_, 0, t.kids, L, wk, none, none, rfl, rfl, s1.trans (same_new hL), upd_same, dk1, by unfold hmx; omega, by unfold szs; omega⟩, ?_⟩
  rintro m σ H2 ⟨lv, l, L, xs, o1, o2, rfl, rfl, s2, hL2, dx, e1, e2⟩
  have lx := dx.lenD
  rw [List.length_map] at lx
  refine ⟨_, rfl, !xs.isEmpty, .inl ⟨xs, SqL.of hL2, rfl⟩, ?_⟩
  cases l with
  | nil =>
    cases xs with
    | cons _ _ => cases lx
    | nil =>
      refine iteF ⟨_, rfl, ?_⟩
      have e : t.ht - 1 = lv := by rw [← e1]; rfl
      rw [e] at q
      exact q H2 s2
  | cons t0 tr =>
    cases xs with
    | nil => cases lx
    | cons x0 xr =>
    refine iteT ⟨_, fun σ' H' h => h, ?_⟩
    generalize hl : t0 :: tr = l at *
    generalize x0 :: xr = xs at *
    have hlen := szs_len l
    refine ⟨_, rfl, _, _, rfl, rfl, _, rfl, L, rfl, ⟨_, SqL.of hL2⟩, fun D hD => ?_⟩
    refine it_W (walk_list (xs := xs)) _ (fun i H' => Same H2 H' ∧ ∃ ys, H' D = some (.lst ys) ∧ DtAll K H' ys ((lvl (l.take i)).map Tm.d)) ⟨same_new hD, [], upd_same, .nil⟩ (fun i H' _ h => SqL.of (h.1 _ _ hL2)) ?_ ?_
    · rintro i x H3 H3' hi ⟨s3, ys, hD3, dy⟩ ⟨rfl, gx⟩
      obtain ⟨d, e3, dk⟩ := dx.getX gx
      rw [List.getElem?_map] at e3
      cases ek : l[i]? with
      | none => rw [ek] at e3; cases e3
      | some k =>
      rw [ek] at e3
      cases e3
      have kin : k ∈ l := List.mem_of_getElem? ek
      have eT : l.take (i + 1) = l.take i ++ [k] := by rw [List.take_add_one, ek]; rfl
      have lT : lvl (l.take (i + 1)) = lvl (l.take i) ++ k.kids := by
        rw [eT]; unfold lvl
        rw [List.map_append, List.flatten_append]
        show _ ++ (k.kids ++ []) = _
        rw [List.append_nil]
      have z1 := szs_lvl (l.take (i + 1))
      have z2 : szs (l.take (i + 1)) ≤ szs l := take_sum Tm.size l (i + 1)
      have z3 := szs_len (lvl (l.take (i + 1)))
      have ll : (lvl (l.take i) ++ k.kids).length ≤ 1000 := by rw [← lT]; omega
      have hkk : k.kids.length ≤ 10000000 := by rw [List.length_append] at ll; omega
      refine ⟨rfl, iteT (B := True) ⟨_, rfl, x, k, H3', rfl, fun _ _ h => h, dk.same s3, hkk, fun H5 p wk s5 hk dk5 => ⟨p, rfl, ⟨_, hk⟩, ?_⟩⟩⟩
      have dk5 := dk5.same s5
      have lwk := dk5.lenD
      rw [List.length_map] at lwk
      have hD2 : H2 D = none := hD
      refine it_W (walk_tup (xs := wk)) _ (fun j H' => Same H2 H' ∧ SqT K H' p wk ∧ DtAll K H' wk (k.kids.map Tm.d) ∧ ∃ ys, H' D = some (.lst ys) ∧ DtAll K H' ys ((lvl (l.take i) ++ k.kids.take j).map Tm.d)) ⟨s3.trans s5, hk, dk5, ys, s5 _ _ hD3, by rw [List.take_zero, List.append_nil]; exact dy.same s5⟩ (fun j H' _ h => h.2.1) ?_ ?_
      · rintro j y H6 H6' hj ⟨s6, hq6, dk6, ys6, hD6, dy6⟩ ⟨rfl, gy⟩
        obtain ⟨d, e5, dyy⟩ := dk6.getX gy
        rw [List.getElem?_map] at e5
        cases ec : k.kids[j]? with
        | none => rw [ec] at e5; cases e5
        | some c =>
        rw [ec] at e5
        cases e5
        have l6 := dy6.lenD
        rw [List.length_map, List.length_append, List.length_take] at l6
        rw [List.length_append] at ll
        refine ⟨rfl, iteT (B := True) ⟨_, rfl, ys6, hD6, smallL (by omega), Same.upd s6 hD2, seqT_upd hq6 hD6, dk6.upd hD6, _, upd_same, ?_⟩⟩
        rw [List.take_add_one, ec, ← List.append_assoc, List.map_append]
        exact (dy6.upd hD6).append (.cons (dyy.updL hD6) .nil)
      · rintro H6 ⟨s6, hq6, dk6, ys6, hD6, dy6⟩
        rw [lwk, List.take_length, ← lT] at dy6
        exact ⟨s6, ys6, hD6, dy6⟩
    · rintro H3 ⟨s3, ys, hD3, dy⟩
      rw [lx, List.take_length] at dy
      have p1 : 1 ≤ hmx l := hmx_pos (by rw [← hl]; exact fun e => nomatch e)
      have h1 := hmx_lvl l
      have h2 := szs_lvl l
      refine ⟨hmx (lvl l), by omega, lv + 1, lvl l, D, ys, o1, o2, rfl, rfl, s2.trans s3, hD3, dy, by omega, by omega⟩
theorem ok_words {f : Addr} {fd : FuncData} (F : Fun K "_all_words" "_all_words" s_all_words f fd) (T : TxtW K mg aS CL CP) (C_parts_of : GenF.CalG P w K mg base 3 "parts_of" (spParts K)) : FnOk P w K mg base CX0 4 f fd ["term"] (spWords K) := by
  refine F.ok sc_all_words (fun vs H Q E h => ?_) (fun cdv A outer s H vs Q E hr h => ?_)
  · obtain ⟨_, _, rfl, _⟩ := h
    rfl
  obtain ⟨v, t, rfl, hv, hsz, q⟩ := h
  refine ⟨_, (pss_one (ps_ret (GenF.pe_lcG (own := [("part", 1)]) (g := (gName 1)) sc_all_words.nd (GenF.pig_c C_parts_of hr (by decide) rfl (pa_cons (pv 0) pa_nil)) (blkOk_by (N := ["term", "part"]) (sc := defScope s_all_words) (by decide +kernel)) (fun _ _ _ _ _ => (pg_name (i := 1) sc_all_words.nd rfl (Or.inl rfl))) (fun _ _ _ _ _ => pts_one (pt_cmpR op_eq (pe_ix (r := rIxT K) ix_tup (pv 1) pe_int (fun _ _ => rfl)) pe_str (nomark _))) (fun _ _ _ _ _ => (pe_ix (r := rIxT K) ix_tup (pv 1) pe_int (fun _ _ => rfl)))))), ?_⟩
  refine ⟨_, rfl, _, _, ⟨v, t, rfl, hv, by omega, rfl, rfl⟩, fun G e1 e2 e3 D hD => ?_⟩
  have ts := Tm.parts_len t
  refine lc_it (GenF.walk_genE e1 e2 e3) (fun i H' => Same H H' ∧ GenF.TK H H' ∧ H' D = some (.lst (((t.parts.take i).filterMap vW).map V.str))) ⟨same_new hD, fun b xs r => ?_, upd_same⟩ (fun i H' _ h => h.2.1) ?_ ?_
  · exact r.elim (fun h => .inl ((same_new hD) _ _ h)) fun ⟨o, h⟩ => .inr ⟨o, (same_new hD) _ _ h⟩
  · rintro i z H3 H2 hi ⟨s3, tk, hd⟩ ⟨rfl, k, gk, dk⟩
    have e4 : t.parts.take (i + 1) = t.parts.take i ++ [k] := by rw [List.take_add_one, gk]; rfl
    have dk2 : Dt K H2 z k.d := Dt.mono tk.sq _ _ dk
    obtain ⟨b1, r1, rfl, hh1⟩ := Tm.dt_parts dk2
    rcases k.vor with ⟨w, rfl⟩ | hk
    · unfold Tm.d at dk2
      obtain ⟨b2, u2, w2, e2, hs2, k1, k2⟩ := Dt.t2 dk2
      cases e2
      obtain rfl := k2.s
      obtain rfl := k1.s
      have ln : ((t.parts.take i).filterMap vW).length ≤ 1000 := Nat.le_trans (List.length_filterMap_le _ _) (by rw [List.length_take]; omega)
      refine ⟨rfl, vTx rfl hs2 (atI_nat (j := 0) rfl) ⟨rfl, _, rfl, sT rfl (vTx rfl hs2 (atI_nat (j := 1) rfl) ⟨_, hd, smallL (by rw [List.length_map]; omega), Same.upd s3 hD, tk_updL tk hd, ?_⟩)⟩⟩
      rw [upd_same, e4, List.filterMap_append, List.map_append]; rfl
    · refine ⟨rfl, vTx rfl hh1 (atI_nat (j := 0) rfl) ⟨rfl, _, rfl, sF (Tm.hd_meta hk) ⟨s3, tk, ?_⟩⟩⟩
      rw [hd, e4, List.filterMap_append]
      have : [k].filterMap vW = [] := by
        cases k with
        | var s => exact absurd rfl (hk s)
        | _ => rfl
      rw [this, List.append_nil]
  · rintro H' ⟨s3, tk, hd⟩
    rw [show t.parts.take t.size = t.parts by rw [← ts, List.take_length]] at hd
    exact q H' D s3 hD hd
def spMetas (K : PySem.W.Frag) : Sp := fun vs H Q _ => ∃ (v : V) (t : Tm), vs = [v] ∧ Dt K H v t.d ∧ t.size ≤ 1000 ∧ ∀ (H' : Hp) (p : Addr), Same H H' → H p = none → H' p = some (.lst ((firsts t.wordsOf).map V.str)) → Q (.ref p) H'
theorem ok_metas {f : Addr} {fd : FuncData} (F : Fun K "metavariables" "metavariables" s_metavariables f fd) (T : TxtW K mg aS CL CP) (C_all_words : C8.Cal P w K mg base 4 "_all_words" (spWords K) []) : FnOk P w K mg base CX0 5 f fd ["term"] (spMetas K) := by
  refine F.ok sc_metavariables (fun vs H Q E h => ?_) (fun cdv A outer s H vs Q E hr h => ?_)
  · obtain ⟨_, _, rfl, _⟩ := h
    rfl
  obtain ⟨v, t, rfl, hv, hsz, q⟩ := h
  refine ⟨_, (pss_one (ps_ret (pe_callTy (call_listD (by rfl)) (by rfl) T.z_list (by decide +kernel) (pa_cons (pe_dc (own := [("word", 1)]) (g := (gName 1)) (tt := tYes) (by rfl) sc_metavariables.nd (pi_list (C8.pe_c C_all_words hr (by decide) rfl (pa_cons (pv 0) pa_nil))) (blkOk_by (N := ["term", "word"]) (sc := defScope s_metavariables) (by decide +kernel)) (fun _ _ _ _ _ => (pg_name (i := 1) sc_metavariables.nd rfl (Or.inl rfl))) (fun _ _ _ _ _ => pts_nil) (fun _ _ _ _ _ => (pv 1)) (fun _ _ _ _ _ => pe_bl)) pa_nil)))), ?_⟩
  have lw : t.wordsOf.length ≤ 1000 := by
    have h1 := List.length_filterMap_le vW t.parts
    have h2 := Tm.parts_len t
    unfold Tm.wordsOf; omega
  refine ⟨_, rfl, v, t, rfl, hv, hsz, fun H1 p s1 hp hp1 => ⟨p, rfl, ⟨_, SqL.of hp1⟩, fun D hD => ?_⟩⟩
  refine it_W (walk_list (xs := t.wordsOf.map V.str)) _ (fun i H' => Same H1 H' ∧ H' D = some (.dK ((firsts (t.wordsOf.take i)).map rowB))) ⟨same_new hD, upd_same⟩ (fun i H' _ h => SqL.of (h.1 _ _ hp1)) ?_ ?_
  · rintro i x H3 H3' hi ⟨s3, h3⟩ ⟨rfl, gx⟩
    rw [List.getElem?_map] at gx
    cases ek : t.wordsOf[i]? with
    | none => rw [ek] at gx; cases gx
    | some k =>
    rw [ek] at gx
    cases gx
    have lf := firsts_len (t.wordsOf.take i)
    rw [List.length_take] at lf
    refine ⟨rfl, iteT (B := True) ⟨_, rfl, _, .inr k, rfl, h3, smallL (by rw [List.length_map]; omega), Same.upd s3 hD, ?_⟩⟩
    rw [upd_same, put_rowB, List.take_add_one, ek]
    show _ = some (HO.dK ((firsts (t.wordsOf.take i ++ [k])).map rowB))
    rw [firsts_snoc]
  · rintro H3 ⟨s3, h3⟩
    rw [List.length_map, List.take_length] at h3
    refine ⟨D, _, rfl, .inl h3, fun p3 hp3 => ?_⟩
    have s13 := s1.trans s3
    refine q _ p3 (s13.trans (same_new hp3)) (s13.free hp3) ?_
    rw [upd_same, List.map_map]; rfl
def spGround (K : PySem.W.Frag) : Sp := fun vs H Q _ => ∃ (v : V) (t : Tm), vs = [v] ∧ Dt K H v t.d ∧ t.size ≤ 1000 ∧ ∀ (H' : Hp), Same H H' → Q (.bl (t.wordsOf.isEmpty)) H'
theorem ok_ground {f : Addr} {fd : FuncData} (F : Fun K "is_ground" "is_ground" s_is_ground f fd) (T : TxtW K mg aS CL CP) (C_all_words : C8.Cal P w K mg base 4 "_all_words" (spWords K) []) : FnOk P w K mg base CX0 5 f fd ["term"] (spGround K) := by
  refine F.ok sc_is_ground (fun vs H Q E h => ?_) (fun cdv A outer s H vs Q E hr h => ?_)
  · obtain ⟨_, _, rfl, _⟩ := h
    rfl
  obtain ⟨v, t, rfl, hv, hsz, q⟩ := h
  refine ⟨_, (pss_one (ps_ret (pe_notT (C8.pe_c C_all_words hr (by decide) rfl (pa_cons (pv 0) pa_nil))))), ?_⟩
  refine ⟨_, rfl, v, t, rfl, hv, hsz, fun H' p s hp hp' => ⟨!(t.wordsOf.map V.str).isEmpty, .inl ⟨_, SqL.of hp', rfl⟩, ?_⟩⟩
  rw [Bool.not_not]
  have e : (t.wordsOf.map V.str).isEmpty = t.wordsOf.isEmpty := by cases t.wordsOf <;> rfl
  rw [e]
  exact q H' s
def isM (k : Tm) : Bool := match k with | .map _ => true | _ => false
def Tm.patB (t : Tm) : Bool := !(t.parts.any isM) && decide (V.int (t.wordsOf.length : Nat) = V.int ((firsts t.wordsOf).length : Nat))
def spPattern (K : PySem.W.Frag) : Sp := fun vs H Q _ => ∃ (v : V) (t : Tm), vs = [v] ∧ Dt K H v t.d ∧ t.size ≤ 1000 ∧ ∀ (H' : Hp), Same H H' → Q (.bl t.patB) H'
theorem ok_pattern {f : Addr} {fd : FuncData} (F : Fun K "is_pattern" "is_pattern" s_is_pattern f fd) (T : TxtW K mg aS CL CP) (C_all_words : C8.Cal P w K mg base 4 "_all_words" (spWords K) []) (C_metavariables : C8.Cal P w K mg base 5 "metavariables" (spMetas K) []) (C_parts_of : GenF.CalG P w K mg base 3 "parts_of" (spParts K)) : FnOk P w K mg base CX0 6 f fd ["term"] (spPattern K) := by
  refine F.ok sc_is_pattern (fun vs H Q E h => ?_) (fun cdv A outer s H vs Q E hr h => ?_)
  · obtain ⟨_, _, rfl, _⟩ := h
    rfl
  obtain ⟨v, t, rfl, hv, hsz, q⟩ := h
  refine ⟨_, (pss_cons (ps_if (pt_val (pe_callB (cr_any (by rfl)) (by rfl) T.z_any (by decide +kernel) (pa_cons (GenF.pe_lcG (own := [("part", 1)]) (g := (gName 1)) (tt := tYes) sc_is_pattern.nd (GenF.pig_c C_parts_of hr (by decide) rfl (pa_cons (pv 0) pa_nil)) (blkOk_by (N := ["term", "part"]) (sc := defScope s_is_pattern) (by decide +kernel)) (fun _ _ _ _ _ => (pg_name (i := 1) sc_is_pattern.nd rfl (Or.inl rfl))) (fun _ _ _ _ _ => pts_nil) (fun _ _ _ _ _ => (pe_cmpR op_eq (pe_ix (r := rIxT K) ix_tup (pv 1) pe_int (fun _ _ => rfl)) pe_str (nomark _)))) pa_nil))) (pss_one (ps_ret pe_bl)) pss_nil)
    (pss_one (ps_ret (pe_cmpR op_eq (pe_callB call_len_seq (by rfl) T.z_len (by decide +kernel) (pa_cons (C8.pe_c C_all_words hr (by decide) rfl (pa_cons (pv 0) pa_nil)) pa_nil)) (pe_callB call_len_seq (by rfl) T.z_len (by decide +kernel) (pa_cons (C8.pe_c C_metavariables hr (by decide) rfl (pa_cons (pv 0) pa_nil)) pa_nil)) (nomark _))))), ?_⟩
  have ts := Tm.parts_len t
  refine ⟨_, rfl, _, _, ⟨v, t, rfl, hv, by omega, rfl, rfl⟩, fun G e1 e2 e3 D hD => ?_⟩
  refine lc_it (GenF.walk_genE e1 e2 e3) (fun i H' => Same H H' ∧ GenF.TK H H' ∧ H' D = some (.lst (((t.parts.take i).map isM).map V.bl))) ⟨same_new hD, fun b xs r => ?_, upd_same⟩ (fun i H' _ h => h.2.1) ?_ ?_
  · exact r.elim (fun h => .inl ((same_new hD) _ _ h)) fun ⟨o, h⟩ => .inr ⟨o, (same_new hD) _ _ h⟩
  · rintro i z H3 H2 hi ⟨s3, tk, hd⟩ ⟨rfl, k, gk, dk⟩
    have e4 : t.parts.take (i + 1) = t.parts.take i ++ [k] := by rw [List.take_add_one, gk]; rfl
    have dk2 : Dt K H2 z k.d := Dt.mono tk.sq _ _ dk
    obtain ⟨b1, r1, rfl, hh1⟩ := Tm.dt_parts dk2
    have ln : (t.parts.take i).length ≤ 1000 := by rw [List.length_take]; omega
    refine ⟨rfl, iteT (B := True) (vTx rfl hh1 (atI_nat (j := 0) rfl) ⟨rfl, _, hd, smallL (by rw [List.length_map, List.length_map]; omega), Same.upd s3 hD, tk_updL tk hd, ?_⟩)⟩
    rw [upd_same, e4, List.map_append, List.map_append]
    have : decide (V.str k.hd = V.str "map") = isM k := by
      cases k with
      | form f ts => cases f <;> rfl
      | _ => rfl
    rw [this]; rfl
  · rintro H' ⟨s3, tk, hd⟩
    rw [show t.parts.take t.size = t.parts by rw [← ts, List.take_length]] at hd
    refine ⟨D, _, rfl, SqL.of hd, _, rfl, ?_⟩
    have ea : ((t.parts.map isM).any id) = t.parts.any isM := by rw [List.any_map]; rfl
    rw [ea]
    cases hm : t.parts.any isM with
    | true =>
      have := q H' s3
      unfold Tm.patB at this
      rw [hm] at this
      exact iteT this
    | false =>
      refine iteF ⟨_, rfl, v, t, rfl, hv.same s3, hsz, fun H4 p4 s4 hp4 h4 => ⟨p4, _, rfl, .inl (SqL.of h4), _, rfl, v, t, rfl, (hv.same s3).same s4, hsz, fun H5 p5 s5 hp5 h5 => ⟨p5, _, rfl, .inl (SqL.of h5), rfl, ?_⟩⟩⟩
      have := q H5 ((s3.trans s4).trans s5)
      unfold Tm.patB at this
      rw [hm] at this
      rw [List.length_map, List.length_map]
      exact this
end
end PK
namespace PK
open PySem L2 _root_.TL
/-! the law's parts of a term -/
def spAll (K : PySem.W.Frag) (n : Nat) : Sp := fun vs H Q _ => ∃ (v : V) (t : Tm), vs = [v] ∧ Dt K H v t.d ∧ t.size ≤ 1000 ∧ t.ht ≤ n ∧ ∀ (H' : Hp) (p : Addr) (xs : List V), Same H H' → H p = none → H' p = some (.lst xs) → DtAll K H' xs (t.parts.map Tm.d) → Q (.ref p) H'
def spDeep (K : PySem.W.Frag) (n : Nat) : Sp := fun vs H Q _ => ∃ (v : V) (t : Tm), vs = [v] ∧ Dt K H v t.d ∧ t.size ≤ 1000 ∧ t.ht ≤ n ∧ ∀ (H' : Hp), Same H H' → Q (.int ((t.ht - 1 : Nat) : Nat)) H'
section
variable {P : Program} {w : World} {K : PySem.W.Frag} {mg : Str → Option Value} {base : Heap} {aS CL CP aF : Addr}
abbrev s_law_direct : Stmt := topS 53
theorem sc_law_direct : FnScope ["term", "entry"] ["term"] (defScope s_law_direct) := ⟨rfl, rfl, rfl, by decide +kernel, rfl, by decide +kernel, by decide +kernel⟩
-- slots: 0:term 1:entry(comp)
abbrev s_law_all : Stmt := topS 54
theorem sc_law_all : FnScope ["term", "row", "part"] ["term"] (defScope s_law_all) := ⟨rfl, rfl, rfl, by decide +kernel, rfl, by decide +kernel, by decide +kernel⟩
-- slots: 0:term 1:row 2:part
abbrev s_law_deep : Stmt := topS 55
theorem sc_law_deep : FnScope ["term", "part"] ["term"] (defScope s_law_deep) := ⟨rfl, rfl, rfl, by decide +kernel, rfl, by decide +kernel, by decide +kernel⟩
-- slots: 0:term 1:part(comp)
theorem ok_direct {f : Addr} {fd : FuncData} (F : Fun K "_law_direct" "_law_direct" s_law_direct f fd) (T : TxtW K mg aS CL CP) : FnOk P w K mg base CX0 1 f fd ["term"] (spKids K) := by
  refine F.ok sc_law_direct (fun vs H Q E h => ?_) (fun cdv A outer s H vs Q E hr h => ?_)
  · obtain ⟨v, t, rfl, _⟩ := h
    rfl
  obtain ⟨v, t, rfl, hv, hn, q⟩ := h
  refine ⟨_, (pss_cons (ps_if (pt_cmpR op_eq (pe_ix ix_tup (pv 0) pe_int (fun _ _ => rfl)) pe_str (nomark _)) (pss_one (ps_ret (pe_ix ix_tup (pv 0) pe_int (fun _ _ => rfl)))) pss_nil)
    (pss_cons (ps_if (pt_cmpR op_eq (pe_ix ix_tup (pv 0) pe_int (fun _ _ => rfl)) pe_str (nomark _)) (pss_one (ps_ret (pe_callTy call_tuple_of (by rfl) T.z_tuple (by decide +kernel) (pa_cons (pe_lc (own := [("entry", 1)]) (g := (gName 1)) (tt := tYes) (by rfl) sc_law_direct.nd (pi_tup (pe_ix ix_tup (pv 0) pe_int (fun _ _ => rfl))) (blkOk_by (N := ["term", "entry"]) (sc := defScope s_law_direct) (by decide +kernel)) (fun _ _ _ _ _ => (pg_name (i := 1) sc_law_direct.nd rfl (Or.inl rfl))) (fun _ _ _ _ _ => pts_nil) (fun _ _ _ _ _ => (pe_ix (r := rIxT K) ix_tup (pv 1) pe_int (fun _ _ => rfl)))) pa_nil)))) pss_nil)
    (pss_cons (ps_if (pt_cmpR op_in_seq (pe_ix ix_tup (pv 0) pe_int (fun _ _ => rfl)) (pe_lst (pa_cons pe_str (pa_cons pe_str (pa_cons pe_str (pa_cons pe_str pa_nil))))) rfl) (pss_one (ps_ret (pe_slice sl_tup (pv 0) (po_some pe_int) po_none))) pss_nil)
    (pss_one (ps_ret (pe_tup pa_nil)))))), ?_⟩
  cases t with
  | node c ts =>
    unfold Tm.d at hv
    obtain ⟨a, x, y, z, rfl, hs, h1, h2, h3⟩ := Dt.t3 hv
    obtain rfl := h1.s
    obtain ⟨b, ys, rfl, hb, hys⟩ := Dt.tn h3
    refine vTx rfl hs rfl ⟨rfl, _, rfl, sT rfl (vTx rfl hs rfl ?_)⟩
    exact q H b ys (Same.refl H) hb (by rw [Tm.ds_map] at hys; exact hys)
  | map es =>
    unfold Tm.d at hv
    obtain ⟨a, x, y, rfl, hs, h1, h2⟩ := Dt.t2 hv
    obtain rfl := h1.s
    obtain ⟨b, ys, rfl, hb, hys⟩ := Dt.tn h2
    rw [Tm.es_map] at hys
    have ly : ys.length = es.length := by rw [hys.lenD, List.length_map]
    have hn' : es.length ≤ 10000000 := by rw [show (Tm.map es).kids = es.map Prod.snd from rfl, List.length_map] at hn; exact hn
    refine vTx rfl hs rfl ⟨rfl, _, rfl, sF (by decide +kernel) (vTx rfl hs rfl ⟨rfl, _, rfl, sT rfl ?_⟩)⟩
    refine vTx rfl hs rfl ⟨b, rfl, ⟨_, hb⟩, fun D hD => lcS (K := K) (walk_tup (xs := ys)) hD (by omega) (fun ds => ds = (es.take ds.length).map fun e => e.2.d) rfl (fun H' s => Same.seqT s hb) ?_ ?_⟩
    · rintro i x H1 H2 ds R hi s ⟨rfl, gx⟩ jd len r
      obtain ⟨e, ge, dx⟩ := DtAll.getX hys gx
      rw [List.getElem?_map] at ge
      cases e0 : es[i]? with
      | none => rw [e0] at ge; cases ge
      | some en =>
        rw [e0] at ge
        cases ge
        obtain ⟨a1, x1, y1, rfl, hs1, k1, k2⟩ := Dt.t2 (dx.same s)
        refine ⟨rfl, vTx rfl hs1 (atI_nat (j := 1) rfl) (r en.2.d y1 _ (Same.refl _) k2 ?_)⟩
        rw [List.length_append, len, show i + [en.2.d].length = i + 1 from rfl, List.take_add_one, e0, List.map_append]
        rw [len] at jd
        rw [← jd]; rfl
    · rintro H' ws ds s hw da len jd
      rw [len, ly, List.take_length] at jd
      refine ⟨D, _, rfl, .inl ⟨SqL.of hw, fun p hp => ?_⟩⟩
      refine q _ p ws (Same.upd s ((Same.refl H).trans s |>.free hp)) (SqT.of upd_same) ?_
      rw [jd] at da
      rw [show (Tm.map es).kids.map Tm.d = es.map fun e => e.2.d from by unfold Tm.kids; rw [List.map_map]; rfl]
      exact da.same (same_new hp)
  | form g ts =>
    unfold Tm.d at hv
    obtain ⟨a, xs, rfl, hs, da⟩ := Dt.tn hv
    cases da with
    | cons h1 dr =>
    obtain rfl := h1.s
    rename_i vs1
    refine vTx rfl hs (atI_nat (j := 0) rfl) ⟨rfl, _, rfl, sF g.ne_node (vTx rfl hs (atI_nat (j := 0) rfl) ⟨rfl, _, rfl, sF g.ne_map (vTx (v := .str g.s) rfl hs (atI_nat (j := 0) rfl) ⟨small (by show 4 ≤ _; decide), fun q1 hq1 => ⟨q1, _, rfl, .inl (SqL.of upd_same), rfl, flat_strs ["get", "set", "plus", "minus"], _, rfl, ?_⟩⟩)⟩)⟩
    have sq := same_new (o := .lst [V.str "get", .str "set", .str "plus", .str "minus"]) hq1
    have hs := Same.seqT sq hs
    rw [show inV (V.str g.s) [V.str "get", .str "set", .str "plus", .str "minus"] = true from g.inF]
    refine iteT ⟨_, rfl, _, rfl, a, _, rfl, hs, fun z => ?_, fun p hp => ?_⟩
    · have e := z.1
      revert e
      show (HT.sIx (vs1.length + 1) 0 (some 1) = 0) → False
      unfold HT.sIx
      intro e
      simp at e
    · have ec : cutV (V.str g.s :: vs1) (some 1) none = vs1 := by
        unfold cutV HT.sIx
        simp
      rw [ec]
      refine q _ p vs1 (sq.trans (same_new hp)) (SqT.of upd_same) ?_
      rw [Tm.ds_map] at dr
      exact dr.same (sq.trans (same_new hp))
  | int n =>
    unfold Tm.d at hv
    obtain ⟨a, x, y, rfl, hs, h1, h2⟩ := Dt.t2 hv
    obtain rfl := h1.s
    refine vTx rfl hs rfl ⟨rfl, _, rfl, sF (by decide +kernel) (vTx rfl hs rfl ⟨rfl, _, rfl, sF (by decide +kernel) (vTx (v := .str "int") rfl hs rfl ⟨small (by show 4 ≤ _; decide), fun q1 hq1 => ⟨q1, _, rfl, .inl (SqL.of upd_same), rfl, flat_strs ["get", "set", "plus", "minus"], _, rfl, ?_⟩⟩)⟩)⟩
    have sq := same_new (o := .lst [V.str "get", .str "set", .str "plus", .str "minus"]) hq1
    rw [show inV (V.str "int") [V.str "get", .str "set", .str "plus", .str "minus"] = decide (("int" : Str) ∈ (["get", "set", "plus", "minus"] : List Str)) from inV_str "int" ["get", "set", "plus", "minus"], decide_eq_false (by decide +kernel)]
    exact iteF ⟨Nat.zero_le _, fun p hp => q _ p [] (sq.trans (same_new hp)) (SqT.of upd_same) .nil⟩
  | name n =>
    unfold Tm.d at hv
    obtain ⟨a, x, y, rfl, hs, h1, h2⟩ := Dt.t2 hv
    obtain rfl := h1.s
    refine vTx rfl hs rfl ⟨rfl, _, rfl, sF (by decide +kernel) (vTx rfl hs rfl ⟨rfl, _, rfl, sF (by decide +kernel) (vTx (v := .str "name") rfl hs rfl ⟨small (by show 4 ≤ _; decide), fun q1 hq1 => ⟨q1, _, rfl, .inl (SqL.of upd_same), rfl, flat_strs ["get", "set", "plus", "minus"], _, rfl, ?_⟩⟩)⟩)⟩
    have sq := same_new (o := .lst [V.str "get", .str "set", .str "plus", .str "minus"]) hq1
    rw [show inV (V.str "name") [V.str "get", .str "set", .str "plus", .str "minus"] = decide (("name" : Str) ∈ (["get", "set", "plus", "minus"] : List Str)) from inV_str "name" ["get", "set", "plus", "minus"], decide_eq_false (by decide +kernel)]
    exact iteF ⟨Nat.zero_le _, fun p hp => q _ p [] (sq.trans (same_new hp)) (SqT.of upd_same) .nil⟩
  | addr n =>
    unfold Tm.d at hv
    obtain ⟨a, x, y, rfl, hs, h1, h2⟩ := Dt.t2 hv
    obtain rfl := h1.s
    refine vTx rfl hs rfl ⟨rfl, _, rfl, sF (by decide +kernel) (vTx rfl hs rfl ⟨rfl, _, rfl, sF (by decide +kernel) (vTx (v := .str "addr") rfl hs rfl ⟨small (by show 4 ≤ _; decide), fun q1 hq1 => ⟨q1, _, rfl, .inl (SqL.of upd_same), rfl, flat_strs ["get", "set", "plus", "minus"], _, rfl, ?_⟩⟩)⟩)⟩
    have sq := same_new (o := .lst [V.str "get", .str "set", .str "plus", .str "minus"]) hq1
    rw [show inV (V.str "addr") [V.str "get", .str "set", .str "plus", .str "minus"] = decide (("addr" : Str) ∈ (["get", "set", "plus", "minus"] : List Str)) from inV_str "addr" ["get", "set", "plus", "minus"], decide_eq_false (by decide +kernel)]
    exact iteF ⟨Nat.zero_le _, fun p hp => q _ p [] (sq.trans (same_new hp)) (SqT.of upd_same) .nil⟩
  | var n =>
    unfold Tm.d at hv
    obtain ⟨a, x, y, rfl, hs, h1, h2⟩ := Dt.t2 hv
    obtain rfl := h1.s
    refine vTx rfl hs rfl ⟨rfl, _, rfl, sF (by decide +kernel) (vTx rfl hs rfl ⟨rfl, _, rfl, sF (by decide +kernel) (vTx (v := .str "meta") rfl hs rfl ⟨small (by show 4 ≤ _; decide), fun q1 hq1 => ⟨q1, _, rfl, .inl (SqL.of upd_same), rfl, flat_strs ["get", "set", "plus", "minus"], _, rfl, ?_⟩⟩)⟩)⟩
    have sq := same_new (o := .lst [V.str "get", .str "set", .str "plus", .str "minus"]) hq1
    rw [show inV (V.str "meta") [V.str "get", .str "set", .str "plus", .str "minus"] = decide (("meta" : Str) ∈ (["get", "set", "plus", "minus"] : List Str)) from inV_str "meta" ["get", "set", "plus", "minus"], decide_eq_false (by decide +kernel)]
    exact iteF ⟨Nat.zero_le _, fun p hp => q _ p [] (sq.trans (same_new hp)) (SqT.of upd_same) .nil⟩
theorem ok_all {n : Nat} {f : Addr} {fd : FuncData} (F : Fun K "_law_all" "_law_all" s_law_all f fd) (T : TxtW K mg aS CL CP) (C_law_direct : C8.Cal P w K mg base 1 "_law_direct" (spKids K) []) (C_law_all : C8.Cal P w K mg base (n + 1) "_law_all" (spAll K n) []) : FnOk P w K mg base CX0 (n + 2) f fd ["term"] (spAll K (n + 1)) := by
  refine F.ok sc_law_all (fun vs H Q E h => ?_) (fun cdv A outer s H vs Q E hr h => ?_)
  · obtain ⟨_, _, rfl, _⟩ := h
    rfl
  obtain ⟨v, t, rfl, hv, hsz, hht, q⟩ := h
  refine ⟨_, (pss_cons (ps_set (i := 1) sc_law_all.nd rfl (Or.inl rfl) (pe_lst (pa_cons (pv 0) pa_nil)))
    (pss_cons (ps_for PassesOwn.never rfl (pi_tup (C8.pe_c C_law_direct hr (by omega) rfl (pa_cons (pv 0) pa_nil))) (pg_name (i := 2) sc_law_all.nd rfl (Or.inl rfl)) (pss_one (ps_expr (pe_bm PySem.F.plainAttrs_list PySem.F.slot_list_extend PySem.F.type_list_extend mt_extend (pv 1) (pa_cons (C8.pe_c C_law_all hr (by omega) rfl (pa_cons (pv 2) pa_nil)) pa_nil)))))
    (pss_one (ps_ret (pv 1))))), ?_⟩
  have hkl : t.kids.length ≤ 1000 := by
    have h1 := szs_len t.kids
    have h2 := Tm.size_eq t
    unfold szs at h1
    omega
  refine ⟨_, rfl, small (by show 1 ≤ _; decide), fun R hR => ?_⟩
  have s0 := same_new (o := .lst [v]) hR
  refine ⟨_, rfl, v, t, rfl, hv.same s0, by omega, fun H1 p wk s1 hk dk => ⟨p, rfl, ⟨_, hk⟩, ?_⟩⟩
  have lk := dk.lenD
  rw [List.length_map] at lk
  refine for_it (walk_tup (xs := wk)) (fun i σ H' => ∃ (xs : List V) (o : Option V), σ = [some v, some (.ref R), o] ∧ Same H H' ∧ H' R = some (.lst xs) ∧ SqT K H' p wk ∧ DtAll K H' wk (t.kids.map Tm.d) ∧ DtAll K H' xs ((t :: ((t.kids.take i).map Tm.parts).flatten).map Tm.d)) ⟨[v], none, rfl, s0.trans s1, s1 _ _ upd_same, hk, dk, .cons ((hv.same s0).same s1) .nil⟩ (fun j σ H' _ z => by obtain ⟨_, _, _, _, _, z, _⟩ := z; exact z) (fun i x σ H2 H' hi z y => ?_) (fun σ H' z => ?_)
  · obtain ⟨rfl, gx⟩ := y
    obtain ⟨xs, o, rfl, sm, hR', hq', dk', dx⟩ := z
    obtain ⟨d, e1, dxx⟩ := dk'.getX gx
    rw [List.getElem?_map] at e1
    cases ek : t.kids[i]? with
    | none => rw [ek] at e1; cases e1
    | some k =>
    rw [ek] at e1
    cases e1
    have km : k ∈ t.kids := List.mem_of_getElem? ek
    have z1 := kid_size km
    have z2 := Tm.ht_kid km
    have pl := Tm.parts_len k
    have z3 : ((t.kids.take i).map Tm.parts).flatten.length ≤ 1000 := by
      have h1 : ((t.kids.take i).map Tm.parts).flatten.length = ((t.kids.take i).map Tm.size).sum := by
        rw [List.length_flatten, List.map_map]
        congr 1
        exact List.map_congr_left fun x _ => Tm.parts_len x
      have h2 := take_sum Tm.size t.kids i
      have h3 := Tm.size_eq t
      omega
    have lx := dx.lenD
    rw [List.length_map, List.length_cons] at lx
    refine ⟨_, rfl, .inl ⟨rfl, _, SqL.of hR'⟩, _, rfl, x, k, rfl, dxx, by omega, by omega, fun H3 p3 zs s3 hp3 hz dz => ?_⟩
    have hR3 := s3 _ _ hR'
    have lz := dz.lenD
    rw [List.length_map] at lz
    refine ⟨R, p3, xs, zs, rfl, rfl, hR3, hz, small (by show xs.length + zs.length ≤ _; omega), _, _, rfl, Same.upd (sm.trans s3) hR, upd_same, seqT_upd (Same.seqT s3 hq') hR3, (dk'.same s3).upd hR3, ?_⟩
    rw [List.take_add_one, ek]
    show DtAll K _ _ ((t :: ((t.kids.take i ++ [k]).map Tm.parts).flatten).map Tm.d)
    rw [List.map_append, List.flatten_append, ← List.cons_append, List.map_append]
    refine ((dx.same s3).upd hR3).append ?_
    show DtAll K _ _ ((k.parts ++ []).map Tm.d)
    rw [List.append_nil]
    exact dz.upd hR3
  · obtain ⟨xs, o, rfl, sm, hR', hq', dk', dx⟩ := z
    rw [lk, List.take_length, ← Tm.parts_eq] at dx
    exact ⟨_, rfl, q H' R xs sm hR hR' dx⟩
theorem ok_deep {n : Nat} {f : Addr} {fd : FuncData} (F : Fun K "_law_deep" "_law_deep" s_law_deep f fd) (T : TxtW K mg aS CL CP) (C_law_direct : C8.Cal P w K mg base 1 "_law_direct" (spKids K) []) (C_law_deep : C8.Cal P w K mg base (n + 1) "_law_deep" (spDeep K n) []) : FnOk P w K mg base CX0 (n + 2) f fd ["term"] (spDeep K (n + 1)) := by
  refine F.ok sc_law_deep (fun vs H Q E h => ?_) (fun cdv A outer s H vs Q E hr h => ?_)
  · obtain ⟨_, _, rfl, _⟩ := h
    rfl
  obtain ⟨v, t, rfl, hv, hsz, hht, q⟩ := h
  refine ⟨_, (pss_one (ps_ret (pe_callB (cr_max (by rfl)) (by rfl) T.z_max (by decide +kernel) (pa_cons (pe_op op_cat (pe_lst (pa_cons pe_int pa_nil)) (pe_lc (own := [("part", 1)]) (g := (gName 1)) (tt := tYes) (by rfl) sc_law_deep.nd (pi_tup (C8.pe_c C_law_direct hr (by omega) rfl (pa_cons (pv 0) pa_nil))) (blkOk_by (N := ["term", "part"]) (sc := defScope s_law_deep) (by decide +kernel)) (fun _ _ _ _ _ => (pg_name (i := 1) sc_law_deep.nd rfl (Or.inl rfl))) (fun _ _ _ _ _ => pts_nil) (fun _ _ _ _ _ => (pe_op op_add pe_int (C8.pe_c C_law_deep hr (by omega) rfl (pa_cons (pv 1) pa_nil)))))) pa_nil)))), ?_⟩
  have hkl : t.kids.length ≤ 1000 := by
    have h1 := szs_len t.kids
    have h2 := Tm.size_eq t
    unfold szs at h1
    omega
  refine ⟨small (by show 1 ≤ _; decide), fun p hp => ?_⟩
  have s0 := same_new (o := .lst [.int 0]) hp
  refine ⟨_, rfl, v, t, rfl, hv.same s0, by omega, fun H0 pk wk s1 hk dk => ⟨pk, rfl, ⟨_, hk⟩, fun D hD => ?_⟩⟩
  have lk := dk.lenD
  rw [List.length_map] at lk
  refine lcS (K := K) (walk_tup (xs := wk)) hD (by omega) (fun ds => ds = ((t.kids.take ds.length).map fun k => ((k.ht : Nat) : Int)).map PyData.int) rfl (fun H' s => Same.seqT s hk) ?_ ?_
  · rintro i x H1 H1 ds R hi s2 ⟨rfl, gx⟩ jd len r
    obtain ⟨d, gd, dx⟩ := DtAll.getX dk gx
    rw [List.getElem?_map] at gd
    cases e0 : t.kids[i]? with
    | none => rw [e0] at gd; cases gd
    | some k =>
    rw [e0] at gd
    cases gd
    have km : k ∈ t.kids := List.mem_of_getElem? e0
    have z1 := kid_size km
    have z2 := Tm.ht_kid km
    have z3 := k.ht_pos
    refine ⟨rfl, _, rfl, x, k, rfl, dx.same s2, by omega, by omega, fun H3 s3 => ⟨_, _, rfl, rfl, ?_⟩⟩
    refine r (.int ((k.ht : Nat) : Int)) _ H3 s3 ?_ ?_
    · have e : (1 : Int) + ((k.ht - 1 : Nat) : Nat) = ((k.ht : Nat) : Int) := by omega
      show Dt K H3 (.int (1 + ((k.ht - 1 : Nat) : Nat))) _
      rw [e]
      exact .int _
    · rw [List.length_append, len, show i + [PyData.int ((k.ht : Nat) : Int)].length = i + 1 from rfl, List.take_add_one, e0, List.map_append, List.map_append]
      rw [len] at jd
      rw [← jd]; rfl
  · rintro H1 ws ds s2 hws dws len jd
    rw [len, lk, List.take_length] at jd
    obtain rfl : ws = (t.kids.map fun k => ((k.ht : Nat) : Int)).map V.int := DtAll.intsE (K := K) (H := H1) (by rw [← jd]; exact dws)
    have hpL : H1 p = some (.lst [.int 0]) := s2 _ _ (s1 _ _ upd_same)
    refine ⟨p, D, _, _, rfl, rfl, hpL, hws, by rw [List.length_map, List.length_map]; exact small (by show 1 + _ ≤ _; omega), fun p2 hp2 => ?_⟩
    refine ⟨p2, 0 :: (t.kids.map fun k => ((k.ht : Nat) : Int)), rfl, SqL.of (by rw [upd_same]; rfl), by simp, fun m hm hmax => ?_⟩
    have hn : m = ((t.ht - 1 : Nat) : Int) := by
      have e := Tm.ht_eq t
      have m0 : (0 : Int) ≤ m := hmax _ List.mem_cons_self
      have h1 : (t.kids.map Tm.ht).foldr max 0 ≤ m.toNat := fmax_le fun x hx => by
        obtain ⟨k, hk, rfl⟩ := List.mem_map.mp hx
        have := hmax ((k.ht : Nat) : Int) (List.mem_cons_of_mem _ (List.mem_map.mpr ⟨k, hk, rfl⟩))
        omega
      rcases List.mem_cons.mp hm with e2 | h
      · omega
      · obtain ⟨k, hk, rfl⟩ := List.mem_map.mp h
        have := le_fmax (List.mem_map.mpr ⟨k, hk, rfl⟩ : k.ht ∈ t.kids.map Tm.ht)
        omega
    rw [hn]
    exact q _ (((s0.trans s1).trans s2).trans (same_new hp2))
end
end PK
namespace PK
open PySem L2 _root_.TL
/-! rebuild with a tuple; the law's own -/
def spRebuildT (K : PySem.W.Frag) : Sp := fun vs H Q _ => ∃ (v : V) (t : Tm) (a : Addr) (ws : List V) (ks : List Tm), vs = [v, .ref a] ∧ Dt K H v t.d ∧ SqT K H a ws ∧ DtAll K H ws (ks.map Tm.d) ∧ ks.length = t.kids.length ∧ ks.length ≤ 10000000 ∧
  ∀ (H' : Hp) (v' : V), Same H H' → Dt K H' v' (t.withKids ks).d → Q v' H'
def spPut (K : PySem.W.Frag) : Sp := fun vs H Q _ => ∃ (v : V) (t : Tm) (a : Addr) (ws : List V) (ks : List Tm), vs = [v, .ref a] ∧ Dt K H v t.d ∧ H a = some (.lst ws) ∧ DtAll K H ws (ks.map Tm.d) ∧ ks.length = t.kids.length ∧ 0 < ks.length ∧ ks.length ≤ 1000 ∧
  ∀ (H' : Hp) (v' : V), Same H H' → Dt K H' v' (t.withKids ks).d → Q v' H'
section
variable {P : Program} {w : World} {K : PySem.W.Frag} {mg : Str → Option Value} {base : Heap} {aS CL CP aF : Addr}
theorem ok_rebuildT {f : Addr} {fd : FuncData} (F : Fun K "rebuild" "rebuild" s_rebuild f fd) (T : TxtZ K mg aF) : FnOk P w K mg base CX0 1 f fd ["term", "parts"] (spRebuildT K) := by
  refine F.ok sc_rebuild (fun vs H Q E h => ?_) (fun cdv A outer s H vs Q E hr h => ?_)
  · obtain ⟨v, t, a, ws, ks, rfl, _⟩ := h
    rfl
  obtain ⟨v, t, a, ws, ks, rfl, hv, hS, da, lk, hn, q⟩ := h
  refine ⟨_, (pss_cons (ps_if (pt_cmpR op_eq (pe_ix ix_tup (pv 0) pe_int (fun _ _ => rfl)) pe_str (nomark _)) (pss_one (ps_ret (pe_tup (pa_cons pe_str (pa_cons (pe_ix ix_tup (pv 0) pe_int (fun _ _ => rfl)) (pa_cons (pe_callTy call_tuple_of (by rfl) T.z_tuple (by decide +kernel) (pa_cons (pv 1) pa_nil)) pa_nil)))))) pss_nil)
    (pss_cons (ps_if (pt_cmpR op_eq (pe_ix ix_tup (pv 0) pe_int (fun _ _ => rfl)) pe_str (nomark _)) (pss_one (ps_ret (pe_tup (pa_cons pe_str (pa_cons (pe_callTy call_tuple_of (by rfl) T.z_tuple (by decide +kernel) (pa_cons (pe_lc (own := [("part", 2), ("word", 3), ("_", 4)]) (g := (gTup K 2 (gCons (gTup K 2 (gCons (gName 3) (gCons (gName 4) gNil))) (gCons (gName 2) gNil)))) (tt := tYes) (by rfl) sc_rebuild.nd (PKZ.pi_zipP (by rfl) T.z_zip (pa_cons (pe_ix ix_tup (pv 0) pe_int (fun _ _ => rfl)) (pa_cons (pv 1) pa_nil))) (blkOk_by (N := ["term", "parts", "part", "word", "_"]) (sc := defScope s_rebuild) (by decide +kernel)) (fun _ _ _ _ _ => (pg_tup (by rfl) (pgs_cons (pg_tup (by rfl) (pgs_cons (pg_name (i := 3) sc_rebuild.nd rfl (Or.inl rfl)) (pgs_cons (pg_name (i := 4) sc_rebuild.nd rfl (Or.inl rfl)) pgs_nil))) (pgs_cons (pg_name (i := 2) sc_rebuild.nd rfl (Or.inl rfl)) pgs_nil)))) (fun _ _ _ _ _ => pts_nil) (fun _ _ _ _ _ => (pe_tup (pa_cons (pv 3) (pa_cons (pv 2) pa_nil))))) pa_nil)) pa_nil))))) pss_nil)
    (pss_cons (ps_if (pt_cmpR op_in_seq (pe_ix ix_tup (pv 0) pe_int (fun _ _ => rfl)) (pe_glob (v := .ref aF) rfl T.g_FO rfl) rfl) (pss_one (ps_ret (pe_tup (pa_cons (pe_ix ix_tup (pv 0) pe_int (fun _ _ => rfl)) (StX.pa_star (pv 1) pa_nil))))) pss_nil)
    (pss_one (ps_ret (pv 0)))))), ?_⟩
  have lw : ws.length = ks.length := by rw [da.lenD, List.length_map]
  cases t with
  | node c ts =>
    unfold Tm.d at hv
    obtain ⟨b, x, y, z, rfl, hs, h1, h2, h3⟩ := Dt.t3 hv
    obtain rfl := h1.s
    refine vTx rfl hs rfl ⟨rfl, _, rfl, sT rfl (vTx rfl hs rfl ?_)⟩
    refine ⟨_, rfl, a, ws, rfl, .inr ⟨hS, small (by show 3 ≤ _; decide), fun p2 hp2 => ?_⟩⟩
    refine q _ _ (same_new hp2) ?_
    show Dt K _ _ (Tm.node c ks).d
    unfold Tm.d
    rw [Tm.ds_map]
    exact Dt.mk3 hp2 (.str "node") h2 (.tup hS da)
  | map es =>
    unfold Tm.d at hv
    obtain ⟨b, x, y, rfl, hs, h1, h2⟩ := Dt.t2 hv
    obtain rfl := h1.s
    obtain ⟨b2, ys, rfl, hb, hys⟩ := Dt.tn h2
    rw [Tm.es_map] at hys
    have ly : ys.length = es.length := by rw [hys.lenD, List.length_map]
    have lk' : ks.length = es.length := by rw [lk]; unfold Tm.kids; rw [List.length_map]
    refine vTx rfl hs rfl ⟨rfl, _, rfl, sF (by decide +kernel) (vTx rfl hs rfl ⟨rfl, _, rfl, sT rfl ?_⟩)⟩
    refine vTx rfl hs rfl ⟨_, rfl, .t, .t, b2, a, ys, ws, rfl, hb, hS, fun D hD => lcS (K := K) (PKZ.walk_zipP (n := ws.length) (by omega)) hD (by omega) (fun ds => ds = (List.zipWith (fun (e : Str × Tm) (k : Tm) => Tm.ent (e.1, k)) (es.take ds.length) (ks.take ds.length))) rfl (fun H' s => ⟨Same.seqT s hb, Same.seqT s hS⟩) ?_ ?_⟩
    · rintro i x H1 H2 ds R hi s ⟨U, x1, y1, rfl, hU, rfl, g1, g2⟩ jd len r
      obtain ⟨e, ge, dx⟩ := DtAll.getX hys g1
      obtain ⟨d2, gd, dy⟩ := DtAll.getX da g2
      rw [List.getElem?_map] at ge gd
      cases e0 : es[i]? with
      | none => rw [e0] at ge; cases ge
      | some en =>
      cases k0 : ks[i]? with
      | none => rw [k0] at gd; cases gd
      | some kn =>
        rw [e0] at ge
        rw [k0] at gd
        cases ge
        cases gd
        unfold Tm.ent at dx
        obtain ⟨a1, u1, w1, rfl, hs1, j1, j2⟩ := Dt.t2 (dx.same s)
        obtain rfl := j1.s
        refine ⟨U, _, rfl, SqT.of upd_same, rfl, _, _, rfl, ⟨a1, _, rfl, Same.seqT (same_new hU) hs1, rfl, _, _, rfl, _, _, rfl, rfl, _, _, rfl, rfl, rfl, _, rfl, _, rfl, small (by show 2 ≤ _; decide), fun p hp => r (Tm.ent (en.1, kn)) _ _ ((same_new hU).trans (same_new hp)) ?_ ?_⟩⟩
        · unfold Tm.ent
          exact Dt.mk2 hp (.str _) ((dy.same s).new hU)
        · rw [List.length_append, len, show i + [Tm.ent (en.1, kn)].length = i + 1 from rfl, List.take_add_one, List.take_add_one, e0, k0]
          rw [len] at jd
          rw [List.zipWith_append (by rw [List.length_take, List.length_take]; omega), ← jd]; rfl
    · rintro H' vs ds s hw dz len jd
      rw [len, lw, List.take_length, lk', List.take_length] at jd
      refine ⟨D, _, rfl, .inl ⟨SqL.of hw, fun p hp => ⟨small (by show 2 ≤ _; decide), fun p2 hp2 => ?_⟩⟩⟩
      refine q _ _ ((s.trans (same_new hp)).trans (same_new hp2)) ?_
      show Dt K _ _ (Tm.map (List.zipWith (fun e k => (e.1, k)) es ks)).d
      unfold Tm.d
      rw [Tm.es_map, List.map_zipWith]
      rw [jd] at dz
      exact Dt.mk2 hp2 (.str "map") (.tup (SqT.of upd_same) (dz.same (same_new hp)))
  | form g ts =>
    unfold Tm.d at hv
    obtain ⟨b, xs, rfl, hs, db⟩ := Dt.tn hv
    cases db with
    | cons h1 dr =>
    obtain rfl := h1.s
    rename_i vs1
    refine vTx rfl hs (atI_nat (j := 0) rfl) ⟨rfl, _, rfl, sF g.ne_node (vTx rfl hs (atI_nat (j := 0) rfl) ⟨rfl, _, rfl, sF g.ne_map (vTx (v := .str g.s) rfl hs (atI_nat (j := 0) rfl) ⟨aF, _, rfl, .inr (T.forms H), rfl, rfl, _, rfl, ?_⟩)⟩)⟩
    rw [if_neg Bool.false_ne_true, g.inF]
    refine iteT (vTx (v := .str g.s) rfl hs (atI_nat (j := 0) rfl) ⟨_, rfl, a, ws, rfl, .inl hS, ?_⟩)
    refine ⟨small (by rw [List.length_cons, List.append_nil, lw]; omega), fun p hp => q _ _ (same_new hp) ?_⟩
    show Dt K _ _ (Tm.form g ks).d
    unfold Tm.d
    rw [Tm.ds_map, List.append_nil]
    exact .tup (SqT.of upd_same) (.cons (.str _) (da.same (same_new hp)))
  | int n =>
    have hv0 := hv
    unfold Tm.d at hv
    obtain ⟨b, x, y, rfl, hs, h1, h2⟩ := Dt.t2 hv
    obtain rfl := h1.s
    refine vTx rfl hs rfl ⟨rfl, _, rfl, sF (by decide +kernel) (vTx rfl hs rfl ⟨rfl, _, rfl, sF (by decide +kernel) (vTx (v := .str "int") rfl hs rfl ⟨aF, _, rfl, .inr (T.forms H), rfl, rfl, _, rfl, ?_⟩)⟩)⟩
    rw [if_neg Bool.false_ne_true, show inV (.str "int") [V.str "get", V.str "set", V.str "plus", V.str "minus"] = false by decide +kernel]
    exact iteF ⟨_, rfl, q _ _ (Same.refl H) hv0⟩
  | name n =>
    have hv0 := hv
    unfold Tm.d at hv
    obtain ⟨b, x, y, rfl, hs, h1, h2⟩ := Dt.t2 hv
    obtain rfl := h1.s
    refine vTx rfl hs rfl ⟨rfl, _, rfl, sF (by decide +kernel) (vTx rfl hs rfl ⟨rfl, _, rfl, sF (by decide +kernel) (vTx (v := .str "name") rfl hs rfl ⟨aF, _, rfl, .inr (T.forms H), rfl, rfl, _, rfl, ?_⟩)⟩)⟩
    rw [if_neg Bool.false_ne_true, show inV (.str "name") [V.str "get", V.str "set", V.str "plus", V.str "minus"] = false by decide +kernel]
    exact iteF ⟨_, rfl, q _ _ (Same.refl H) hv0⟩
  | addr n =>
    have hv0 := hv
    unfold Tm.d at hv
    obtain ⟨b, x, y, rfl, hs, h1, h2⟩ := Dt.t2 hv
    obtain rfl := h1.s
    refine vTx rfl hs rfl ⟨rfl, _, rfl, sF (by decide +kernel) (vTx rfl hs rfl ⟨rfl, _, rfl, sF (by decide +kernel) (vTx (v := .str "addr") rfl hs rfl ⟨aF, _, rfl, .inr (T.forms H), rfl, rfl, _, rfl, ?_⟩)⟩)⟩
    rw [if_neg Bool.false_ne_true, show inV (.str "addr") [V.str "get", V.str "set", V.str "plus", V.str "minus"] = false by decide +kernel]
    exact iteF ⟨_, rfl, q _ _ (Same.refl H) hv0⟩
  | var n =>
    have hv0 := hv
    unfold Tm.d at hv
    obtain ⟨b, x, y, rfl, hs, h1, h2⟩ := Dt.t2 hv
    obtain rfl := h1.s
    refine vTx rfl hs rfl ⟨rfl, _, rfl, sF (by decide +kernel) (vTx rfl hs rfl ⟨rfl, _, rfl, sF (by decide +kernel) (vTx (v := .str "meta") rfl hs rfl ⟨aF, _, rfl, .inr (T.forms H), rfl, rfl, _, rfl, ?_⟩)⟩)⟩
    rw [if_neg Bool.false_ne_true, show inV (.str "meta") [V.str "get", V.str "set", V.str "plus", V.str "minus"] = false by decide +kernel]
    exact iteF ⟨_, rfl, q _ _ (Same.refl H) hv0⟩
abbrev s_law_put : Stmt := topS 57
theorem sc_law_put : FnScope ["term", "parts", "k"] ["term", "parts"] (defScope s_law_put) := ⟨rfl, rfl, rfl, by decide +kernel, rfl, by decide +kernel, by decide +kernel⟩
-- slots: 0:term(cell) 1:parts(cell) 2:k(comp)
theorem ok_put {f : Addr} {fd : FuncData} (F : Fun K "_law_put" "_law_put" s_law_put f fd) (T : TxtW K mg aS CL CP) : FnOk P w K mg base CX0 1 f fd ["term", "parts"] (spPut K) := by
  refine F.ok sc_law_put (fun vs H Q E h => ?_) (fun cdv A outer s H vs Q E hr h => ?_)
  · obtain ⟨v, t, a, ws, ks, rfl, _⟩ := h
    rfl
  obtain ⟨v, t, a, ws, ks, rfl, hv, hS, da, lk, hp0, hn, q⟩ := h
  refine ⟨_, (pss_cons (ps_if (pt_cmpR op_eq (pe_ix ix_tup (pv 0) pe_int (fun _ _ => rfl)) pe_str (nomark _)) (pss_one (ps_ret (pe_tup (pa_cons pe_str (pa_cons (pe_ix ix_tup (pv 0) pe_int (fun _ _ => rfl)) (pa_cons (pe_callTy call_tuple_of (by rfl) T.z_tuple (by decide +kernel) (pa_cons (pv 1) pa_nil)) pa_nil)))))) pss_nil)
    (pss_cons (ps_if (pt_cmpR op_eq (pe_ix ix_tup (pv 0) pe_int (fun _ _ => rfl)) pe_str (nomark _)) (pss_one (ps_ret (pe_tup (pa_cons pe_str (pa_cons (pe_callTy call_tuple_of (by rfl) T.z_tuple (by decide +kernel) (pa_cons (pe_lc (own := [("k", 2)]) (g := (gName 2)) (tt := tYes) (by rfl) sc_law_put.nd (pi_range1 (by rfl) T.z_range (pa_cons (pe_callB call_lenS (by rfl) T.z_len (by decide +kernel) (pa_cons (pv 1) pa_nil)) pa_nil)) (blkOk_by (N := ["term", "parts", "k"]) (sc := defScope s_law_put) (by decide +kernel)) (fun _ _ _ _ _ => (pg_name (i := 2) sc_law_put.nd rfl (Or.inl rfl))) (fun _ _ _ _ _ => pts_nil) (fun _ _ _ _ _ => (pe_tup (pa_cons (pe_ix (r := rIxT K) ix_tup (pe_ix (r := rIxT K) ix_tup (pe_ix (r := rIxT K) ix_tup (pv 0) pe_int (fun _ _ => rfl)) (pv 2) (fun _ _ => rfl)) pe_int (fun _ _ => rfl)) (pa_cons (pe_ix (r := rIxL K) ix_list (pv 1) (pv 2) (fun _ _ => rfl)) pa_nil))))) pa_nil)) pa_nil))))) pss_nil)
    (pss_one (ps_ret (pe_op op_catT (pe_tup (pa_cons (pe_ix ix_tup (pv 0) pe_int (fun _ _ => rfl)) pa_nil)) (pe_callTy call_tuple_of (by rfl) T.z_tuple (by decide +kernel) (pa_cons (pv 1) pa_nil))))))), ?_⟩
  have lw : ws.length = ks.length := by rw [da.lenD, List.length_map]
  have hL := SqL.of (K := K) hS
  cases t with
  | node c ts =>
    unfold Tm.d at hv
    obtain ⟨b, x, y, z, rfl, hs, h1, h2, h3⟩ := Dt.t3 hv
    obtain rfl := h1.s
    refine vTx rfl hs rfl ⟨rfl, _, rfl, sT rfl (vTx rfl hs rfl ?_)⟩
    refine ⟨_, rfl, a, ws, rfl, .inl ⟨hL, fun p hp => ⟨small (by show 3 ≤ _; decide), fun p2 hp2 => ?_⟩⟩⟩
    refine q _ _ ((same_new hp).trans (same_new hp2)) ?_
    show Dt K _ _ (Tm.node c ks).d
    unfold Tm.d
    rw [Tm.ds_map]
    exact Dt.mk3 hp2 (.str "node") (h2.new hp) (.tup (SqT.of upd_same) (da.same (same_new hp)))
  | map es =>
    unfold Tm.d at hv
    obtain ⟨b, x, y, rfl, hs, h1, h2⟩ := Dt.t2 hv
    obtain rfl := h1.s
    obtain ⟨b2, ys, rfl, hb, hys⟩ := Dt.tn h2
    rw [Tm.es_map] at hys
    have ly : ys.length = es.length := by rw [hys.lenD, List.length_map]
    have lk' : ks.length = es.length := by rw [lk]; unfold Tm.kids; rw [List.length_map]
    refine vTx rfl hs rfl ⟨rfl, _, rfl, sF (by decide +kernel) (vTx rfl hs rfl ⟨rfl, _, rfl, sT rfl ?_⟩)⟩
    refine ⟨_, rfl, a, ws, rfl, .inl hL, _, rfl, by omega, by omega, fun D hD => lcS (K := K) (walk_range (lo := 0) (n := ((ws.length : Nat) : Int).toNat)) hD (by omega) (fun ds => ds = ((es.zip ks).take ds.length).map fun e => Tm.ent (e.1.1, e.2)) rfl (fun _ _ => trivial) ?_ ?_⟩
    · rintro i x H1 H2 ds R hi s ⟨rfl, rfl⟩ jd len r
      have hi2 : i < ks.length := by omega
      have hy : i < ys.length := by omega
      have e0 : es[i]? = some es[i] := List.getElem?_eq_getElem _
      have k0 : ks[i]? = some ks[i] := List.getElem?_eq_getElem _
      have g1 : ys[i]? = some ys[i] := List.getElem?_eq_getElem _
      have g2 : ws[i]? = some ws[i] := List.getElem?_eq_getElem _
      obtain ⟨e, ge, dx⟩ := DtAll.getX hys g1
      obtain ⟨d2, gd, dy⟩ := DtAll.getX da g2
      rw [List.getElem?_map, e0] at ge
      rw [List.getElem?_map, k0] at gd
      cases ge
      cases gd
      have zz : (es.zip ks)[i]? = some (es[i], ks[i]) := by rw [List.getElem?_zip_eq_some]; exact ⟨e0, k0⟩
      generalize es[i] = en at *
      generalize ks[i] = kn at *
      generalize ys[i] = yn at *
      generalize ws[i] = wn at *
      unfold Tm.ent at dx
      obtain ⟨a1, u1, w1, rfl, hs1, j1, j2⟩ := Dt.t2 (dx.same s)
      obtain rfl := j1.s
      have iz : (0 : Int) + (i : Nat) = (i : Nat) := Int.zero_add _
      refine ⟨rfl, vTx rfl (Same.seqT s hs) (atI_nat (j := 1) rfl) ⟨_, rfl, b2, ys, (0 : Int) + (i : Nat), .ref a1, rfl, rfl, Same.seqT s hb, by rw [iz]; exact atI_nat g1, a1, _, 0, _, rfl, rfl, hs1, rfl, _, rfl, _, rfl, a, ws, (0 : Int) + (i : Nat), wn, rfl, rfl, SqL.of (s _ _ hS), by rw [iz]; exact atI_nat g2, small (by show 2 ≤ _; decide), fun p hp => ?_⟩⟩
      refine r (Tm.ent (en.1, kn)) _ _ (same_new hp) ?_ ?_
      · unfold Tm.ent
        exact Dt.mk2 hp (.str _) (dy.same s)
      · rw [List.length_append, len, show i + [Tm.ent (en.1, kn)].length = i + 1 from rfl, List.take_add_one, zz, List.map_append]
        rw [len] at jd
        rw [← jd]; rfl
    · rintro H' vs ds s hw dz len jd
      have ez : (es.zip ks).take ds.length = es.zip ks := List.take_of_length_le (by rw [List.length_zip, len]; omega)
      rw [ez] at jd
      refine ⟨D, _, rfl, .inl ⟨SqL.of hw, fun p hp => ⟨small (by show 2 ≤ _; decide), fun p2 hp2 => ?_⟩⟩⟩
      refine q _ _ ((s.trans (same_new hp)).trans (same_new hp2)) ?_
      show Dt K _ _ (Tm.map (List.zipWith (fun e k => (e.1, k)) es ks)).d
      unfold Tm.d
      rw [Tm.es_map, List.map_zipWith]
      have e2 : List.zipWith (fun (e : Str × Tm) (k : Tm) => Tm.ent (e.1, k)) es ks = (es.zip ks).map fun e => Tm.ent (e.1.1, e.2) := by
        rw [List.map_zip_eq_zipWith]; rfl
      rw [e2, ← jd]
      exact Dt.mk2 hp2 (.str "map") (.tup (SqT.of upd_same) (dz.same (same_new hp)))
  | form g ts =>
    unfold Tm.d at hv
    obtain ⟨b, xs, rfl, hs, db⟩ := Dt.tn hv
    cases db with
    | cons h1 dr =>
    obtain rfl := h1.s
    rename_i vs1
    refine vTx rfl hs (atI_nat (j := 0) rfl) ⟨rfl, _, rfl, sF g.ne_node (vTx rfl hs (atI_nat (j := 0) rfl) ⟨rfl, _, rfl, sF g.ne_map (vTx (v := .str g.s) rfl hs (atI_nat (j := 0) rfl) ?_)⟩)⟩
    refine ⟨small (by show 1 ≤ _; decide), fun p hp => ⟨_, rfl, a, ws, rfl, .inl ⟨SqL.of ((same_new hp) _ _ hS), fun p2 hp2 => ?_⟩⟩⟩
    refine ⟨p, p2, [.str g.s], ws, rfl, rfl, Same.seqT (same_new hp2) (SqT.of upd_same), SqT.of upd_same, by simp, small (by rw [lw]; show 1 + ks.length ≤ _; omega), fun e => ?_, fun _ p3 hp3 => ?_⟩
    · rw [e] at lw; exact absurd lw.symm (by show ks.length ≠ 0; omega)
    · refine q _ _ (((same_new hp).trans (same_new hp2)).trans (same_new hp3)) ?_
      show Dt K _ _ (Tm.form g ks).d
      unfold Tm.d
      rw [Tm.ds_map]
      exact .tup (SqT.of upd_same) (.cons (.str _) (((da.same (same_new hp)).same (same_new hp2)).same (same_new hp3)))
  | int n => exact absurd lk (by show ks.length ≠ 0; omega)
  | name n => exact absurd lk (by show ks.length ≠ 0; omega)
  | addr n => exact absurd lk (by show ks.length ≠ 0; omega)
  | var n => exact absurd lk (by show ks.length ≠ 0; omega)
end
end PK
namespace PK
open PySem L2 _root_.TL
/-! a term within result forms -/
def isFo (t : Tm) : Prop := ∃ f ts, t = .form f ts
def spFormed (K : PySem.W.Frag) : Sp := fun vs H Q _ => ∃ (l c pw : Addr) (v : V) (t : Tm) (sig : List (Str × Nat)) (ws : List Str), vs = [.ref l, v, .ref pw] ∧ Pool H l c ∧ Dt K H v t.d ∧ TOk sig ws t ∧ Wl H l pw ws ∧ ws.length = 5 ∧
  ∀ (H' : Hp) (v' : V) (m : Tm), Ext l c H H' → Dt K H' v' m.d → FOk sig ws m → m.size ≤ t.size + 9 → m.ht ≤ t.ht + 3 → (m = t ∨ isFo m) → Q v' H'
structure LeafOk (sig : List (Str × Nat)) (ws : List Str) (k : Tm) : Prop where
  ok : FOk sig ws k
  sz : k.size = 1
  ht : k.ht = 1
theorem leafOk_of {sig : List (Str × Nat)} {ws : List Str} {k : Tm} (h : TLF sig ws k) (hk : k.kids = []) : LeafOk sig ws k := by
  refine ⟨.mk h fun x hx => (by rw [hk] at hx; cases hx), ?_, ?_⟩
  · rw [Tm.size_eq, hk]; rfl
  · rw [Tm.ht_eq, hk]; rfl
theorem form_ok {sig : List (Str × Nat)} {ws : List Str} {m : Tm} (f : Fm) {ts : List Tm} (hm : FOk sig ws m) (h0 : ts ≠ []) (h3 : ts.length ≤ 3) (hk : ∀ k ∈ ts, k = m ∨ LeafOk sig ws k) : FOk sig ws (.form f ts) ∧ (Tm.form f ts).ht ≤ m.ht + 1 := by
  refine ⟨.mk ⟨h0, h3⟩ fun k hx => ?_, Tm.ht_le fun k hx => ?_⟩
  · rcases hk k hx with rfl | h
    · exact hm
    · exact h.ok
  · rcases hk k hx with rfl | h
    · exact Nat.le_refl _
    · have := h.ht; have := m.ht_pos; omega
section
variable {P : Program} {w : World} {K : PySem.W.Frag} {mg : Str → Option Value} {base : Heap} {aS CL CP aF : Addr}
abbrev s_law_formed : Stmt := topS 56
theorem sc_law_formed : FnScope ["pool", "term", "words", "made", "k", "kind", "key"] ["pool", "term", "words"] (defScope s_law_formed) := ⟨rfl, rfl, rfl, by decide +kernel, rfl, by decide +kernel, by decide +kernel⟩
-- slots: 0:pool 1:term 2:words 3:made 4:k 5:kind 6:key
theorem ok_formed {f : Addr} {fd : FuncData} (F : Fun K "_law_formed" "_law_formed" s_law_formed f fd) (T : TxtW K mg aS CL CP) (C_law_take : C8.Cal P w K mg base 2 "_law_take" (spTake 2) []) (C_law_integer : C8.Cal P w K mg base 3 "_law_integer" spIntg []) : FnOk P w K mg base CX0 4 f fd ["pool", "term", "words"] (spFormed K) := by
  refine F.ok sc_law_formed (fun vs H Q E h => ?_) (fun cdv A outer s H vs Q E hr h => ?_)
  · obtain ⟨_, _, _, _, _, _, _, rfl, _⟩ := h
    rfl
  obtain ⟨l, c, pw, v, t, sig, ws, rfl, P0, hv, tok, W0, lw, q⟩ := h
  refine ⟨_, (pss_cons (ps_set (i := 3) sc_law_formed.nd rfl (Or.inl rfl) (pv 1))
    (pss_cons (ps_for PassesOwn.never rfl (pi_range1 (by rfl) T.z_range (pa_cons (pe_ix ix_tup (pe_tup (pa_cons pe_int (pa_cons pe_int (pa_cons pe_int (pa_cons pe_int (pa_cons pe_int (pa_cons pe_int pa_nil))))))) (C8.pe_c C_law_take hr (by decide) rfl (pa_cons (pv 0) (pa_cons pe_int pa_nil))) (fun _ _ => rfl)) pa_nil)) (pg_name (i := 4) sc_law_formed.nd rfl (Or.inl rfl)) (pss_cons (ps_set (i := 5) sc_law_formed.nd rfl (Or.inl rfl) (C8.pe_c C_law_take hr (by decide) rfl (pa_cons (pv 0) (pa_cons pe_int pa_nil))))
    (pss_cons (ps_set (i := 6) sc_law_formed.nd rfl (Or.inl rfl) (pe_tup (pa_cons pe_str (pa_cons (pe_ix ix_list (pv 2) (C8.pe_c C_law_take hr (by decide) rfl (pa_cons (pv 0) (pa_cons pe_int pa_nil))) (fun _ _ => rfl)) pa_nil))))
    (pss_one (ps_if (pt_cmpR op_eq (pv 5) pe_int (nomark _)) (pss_one (ps_set (i := 3) sc_law_formed.nd rfl (Or.inl rfl) (pe_tup (pa_cons pe_str (pa_cons (pv 3) (pa_cons (pv 6) pa_nil)))))) (pss_one (ps_if (pt_cmpR op_eq (pv 5) pe_int (nomark _)) (pss_one (ps_set (i := 3) sc_law_formed.nd rfl (Or.inl rfl) (pe_tup (pa_cons pe_str (pa_cons (pe_tup (pa_cons pe_str (pa_cons (pe_ix ix_list (pv 2) pe_int (fun _ _ => rfl)) pa_nil))) (pa_cons (pv 6) (pa_cons (pv 3) pa_nil))))))) (pss_one (ps_set (i := 3) sc_law_formed.nd rfl (Or.inl rfl) (pe_tup (pa_cons (pe_ix ix_tup (pe_tup (pa_cons pe_str (pa_cons pe_str pa_nil))) (pe_op op_sub (pv 5) pe_int) (fun _ _ => rfl)) (pa_cons (pv 3) (pa_cons (pe_tup (pa_cons pe_str (pa_cons (C8.pe_c C_law_integer hr (by decide) rfl (pa_cons (pv 0) pa_nil)) pa_nil))) pa_nil)))))))))))))
    (pss_one (ps_ret (pv 3))))), ?_⟩
  refine ⟨_, rfl, small (by show 6 ≤ _; decide), fun p0 hp0 => ?_⟩
  have x0 := (Ext.refl P0).new (o := .tup [.int 0, .int 0, .int 1, .int 1, .int 2, .int 3]) P0 hp0
  refine vTake rfl x0.pool (by decide) (by decide) fun d H1 d0 d6 x1 => ?_
  have hs0 : SqT K H1 p0 [.int 0, .int 0, .int 1, .int 1, .int 2, .int 3] := x1.seqT x0.pool (SqT.of upd_same)
  obtain ⟨n, hn3, hn⟩ : ∃ n : Nat, n ≤ 3 ∧ atI [V.int 0, .int 0, .int 1, .int 1, .int 2, .int 3] d = some (.int (n : Nat)) := by
    rcases (by omega : d = 0 ∨ d = 1 ∨ d = 2 ∨ d = 3 ∨ d = 4 ∨ d = 5) with rfl | rfl | rfl | rfl | rfl | rfl
    · exact ⟨0, by decide, rfl⟩
    · exact ⟨0, by decide, rfl⟩
    · exact ⟨1, by decide, rfl⟩
    · exact ⟨1, by decide, rfl⟩
    · exact ⟨2, by decide, rfl⟩
    · exact ⟨3, by decide, rfl⟩
  have x01 := x0.trans x1
  refine ⟨p0, _, d, _, rfl, rfl, hs0, hn, (n : Nat), rfl, by omega, by omega, for_range (n := ((n : Nat) : Int).toNat) (fun i σ H' => ∃ (mv : V) (m : Tm) (o1 o2 o3 : Option V), σ = [some (.ref l), some v, some (.ref pw), some mv, o1, o2, o3] ∧ Ext l c H H' ∧ Dt K H' mv m.d ∧ FOk sig ws m ∧ m.size ≤ t.size + 3 * i ∧ m.ht ≤ t.ht + i ∧ (m = t ∨ isFo m)) ⟨v, t, none, none, none, rfl, x01, hv.ext P0 x01, tok.fok, by omega, by omega, .inl rfl⟩ ?_ ?_⟩
  · rintro i σ H2 hi ⟨mv, m, o1, o2, o3, rfl, x, dm, mok, msz, mht, mf⟩
    have W2 := W0.ext x
    have leafW : ∀ {w : Str}, w ∈ ws → w ∈ ws ∧ Wd w := fun h => ⟨h, W0.wd _ h⟩
    refine vTake rfl x.pool (by decide) (by decide) fun kd H3 k0 k4 x3 => ⟨_, rfl, vTake rfl x3.pool (by decide) (by decide) fun e H4 e0 e5 x4 => ?_⟩
    have x24 := x3.trans x4
    refine (W2.ext x24).ix e0 (by rw [lw]; omega) fun w hw => ⟨small (by show 2 ≤ _; decide), fun p5 hp5 => ?_⟩
    have x5 := (Ext.refl x24.pool).new (o := .tup [.str "name", .str w]) x24.pool hp5
    have x25 := x24.trans x5
    have x05 := x.trans x25
    have dm5 := dm.ext x.pool x25
    have dk5 : Dt K (upd H4 p5 (.tup [.str "name", .str w])) (.ref p5) (Tm.name w).d := by unfold Tm.d; exact Dt.mk2 hp5 (.str _) (.str _)
    have nk : LeafOk sig ws (.name w) := leafOk_of (show w ∈ ws ∧ Wd w from leafW hw) rfl
    have W5 := W0.ext x05
    generalize upd H4 p5 (.tup [.str "name", .str w]) = H5 at x5 x25 x05 dm5 dk5 W5
    have P5 := x05.pool
    refine ⟨_, rfl, rfl, _, rfl, ite2 (fun _ => ?_) (fun z0 => ⟨_, rfl, rfl, _, rfl, ite2 (fun _ => ?_) (fun z1 => ?_)⟩)⟩
    · refine ⟨_, rfl, _, rfl, small (by show 3 ≤ _; decide), fun p6 hp6 => ?_⟩
      have x6 := (Ext.refl P5).new (o := .tup [.str "get", mv, .ref p5]) P5 hp6
      obtain ⟨a1, a2⟩ := form_ok .get (ts := [m, .name w]) mok (by simp) (by simp) fun k hk => by
        rcases List.mem_cons.mp hk with rfl | hk
        · exact .inl rfl
        · rw [List.mem_singleton.mp hk]; exact .inr nk
      refine ⟨_, .form .get [m, .name w], _, _, _, rfl, x05.trans x6, ?_, a1, ?_, by omega, .inr ⟨_, _, rfl⟩⟩
      · unfold Tm.d; rw [Tm.ds_map]; exact Dt.mk3 hp6 (.str _) dm5 dk5
      · have := nk.sz
        rw [Tm.size_eq]; show 1 + (m.size + ((Tm.name w).size + 0)) ≤ _; omega
    · refine ⟨_, rfl, W5.ix (Int.le_refl 0) (by rw [lw]; omega) fun w0 hw0 => ⟨small (by show 2 ≤ _; decide), fun p6 hp6 => ⟨_, rfl, _, rfl, small (by show 4 ≤ _; decide), fun p7 hp7 => ?_⟩⟩⟩
      have x6 := (Ext.refl P5).new (o := .tup [.str "meta", .str w0]) P5 hp6
      have x7 := x6.new (o := .tup [.str "set", .ref p6, .ref p5, mv]) P5 hp7
      have vk : LeafOk sig ws (.var w0) := leafOk_of (show w0 ∈ ws ∧ Wd w0 from leafW hw0) rfl
      have dv6 : Dt K (upd H5 p6 (.tup [.str "meta", .str w0])) (.ref p6) (Tm.var w0).d := by unfold Tm.d; exact Dt.mk2 hp6 (.str _) (.str _)
      obtain ⟨a1, a2⟩ := form_ok .set (ts := [.var w0, .name w, m]) mok (by simp) (by simp) fun k hk => by
        rcases List.mem_cons.mp hk with rfl | hk
        · exact .inr vk
        rcases List.mem_cons.mp hk with rfl | hk
        · exact .inr nk
        · exact .inl (List.mem_singleton.mp hk)
      refine ⟨_, .form .set [.var w0, .name w, m], _, _, _, rfl, x05.trans x7, ?_, a1, ?_, by omega, .inr ⟨_, _, rfl⟩⟩
      · unfold Tm.d; rw [Tm.ds_map]
        exact .tup (SqT.of upd_same) (.cons (.str _) (.cons (dv6.new hp7) (.cons ((dk5.new hp6).new hp7) (.cons ((dm5.new hp6).new hp7) .nil))))
      · have h1 := nk.sz
        have h2 := vk.sz
        rw [Tm.size_eq]; show 1 + ((Tm.var w0).size + ((Tm.name w).size + (m.size + 0))) ≤ _; omega
    · have hk0 : kd ≠ 0 := fun e => z0 (by rw [e]; rfl)
      have hk1 : kd ≠ 1 := fun e => z1 (by rw [e]; rfl)
      refine ⟨small (by show 2 ≤ _; decide), fun p6 hp6 => ?_⟩
      have x6 := (Ext.refl P5).new (o := .tup [.str "plus", .str "minus"]) P5 hp6
      have hs6 : SqT K (upd H5 p6 (.tup [.str "plus", .str "minus"])) p6 [.str "plus", .str "minus"] := SqT.of upd_same
      obtain ⟨f, hf⟩ : ∃ f : Fm, atI [V.str "plus", .str "minus"] (kd - 2) = some (.str f.s) := by
        rcases (by omega : kd = 2 ∨ kd = 3) with rfl | rfl
        · exact ⟨.plus, rfl⟩
        · exact ⟨.minus, rfl⟩
      refine ⟨_, rfl, _, _, rfl, rfl, p6, _, _, _, rfl, rfl, hs6, hf, ?_⟩
      refine ⟨_, rfl, _, rfl, l, c, rfl, x6.pool, fun z H7 hz x7 => ⟨small (by show 2 ≤ _; decide), fun p8 hp8 => ⟨small (by show 3 ≤ _; decide), fun p9 hp9 => ?_⟩⟩⟩
      have x67 := x6.trans x7
      have x8 := x67.new (o := .tup [.str "int", .int z]) P5 hp8
      have x9 := x8.new (o := .tup [.str f.s, mv, .ref p8]) P5 hp9
      have zk : LeafOk sig ws (.int z) := leafOk_of (show -1000000000000000 < z ∧ z < 1000000000000000 from hz) rfl
      have dz8 : Dt K (upd H7 p8 (.tup [.str "int", .int z])) (.ref p8) (Tm.int z).d := by unfold Tm.d; exact Dt.mk2 hp8 (.str _) (.int _)
      obtain ⟨a1, a2⟩ := form_ok f (ts := [m, .int z]) mok (by simp) (by simp) fun k hk => by
        rcases List.mem_cons.mp hk with rfl | hk
        · exact .inl rfl
        · rw [List.mem_singleton.mp hk]; exact .inr zk
      refine ⟨_, .form f [m, .int z], _, _, _, rfl, x05.trans x9, ?_, a1, ?_, by omega, .inr ⟨_, _, rfl⟩⟩
      · unfold Tm.d; rw [Tm.ds_map]
        exact Dt.mk3 hp9 (.str _) ((dm5.ext P5 x67).new hp8) dz8
      · have := zk.sz
        rw [Tm.size_eq]; show 1 + (m.size + ((Tm.int z).size + 0)) ≤ _; omega
  · rintro σ H2 ⟨mv, m, o1, o2, o3, rfl, x, dm, mok, msz, mht, mf⟩
    exact ⟨_, rfl, q H2 mv m x dm mok (by omega) (by omega) mf⟩
end
end PK
namespace PK
open PySem L2 _root_.TL
/-! what is told of a term -/
theorem depth_le : ∀ (ds : List PyData) (n : Nat), (∀ d ∈ ds, d.depth ≤ n) → PyData.depthAll ds ≤ n
  | [], _, _ => Nat.zero_le _
  | d :: r, n, h => by
    show max _ _ ≤ n
    have h1 := h d List.mem_cons_self
    have h2 := depth_le r n fun x hx => h x (List.mem_cons_of_mem _ hx)
    omega
theorem tm_dep {t : Tm} : t.d.depth ≤ 3 * t.ht := by
  induction t using Tm.ind with
  | h t ih =>
    have hpos := t.ht_pos
    cases t with
    | node c ts =>
      unfold Tm.d
      rw [Tm.ds_map]
      have : PyData.depthAll (ts.map Tm.d) ≤ 3 * (Tm.node c ts).ht - 3 := depth_le _ _ fun d hd => by
        obtain ⟨k, hk, rfl⟩ := List.mem_map.mp hd
        have h1 := ih k hk
        have h2 := Tm.ht_kid (t := .node c ts) hk
        omega
      show max 0 (max 0 (max (PyData.depthAll (ts.map Tm.d) + 1) 0)) + 1 ≤ _
      omega
    | map es =>
      unfold Tm.d
      rw [Tm.es_map]
      have : PyData.depthAll (es.map Tm.ent) ≤ 3 * (Tm.map es).ht - 2 := depth_le _ _ fun d hd => by
        obtain ⟨e, he, rfl⟩ := List.mem_map.mp hd
        have hk : e.2 ∈ (Tm.map es).kids := List.mem_map.mpr ⟨e, he, rfl⟩
        have h1 := ih e.2 hk
        have h2 := Tm.ht_kid hk
        unfold Tm.ent
        show max 0 (max e.2.d.depth 0) + 1 ≤ _
        omega
      show max 0 (max (PyData.depthAll (es.map Tm.ent) + 1) 0) + 1 ≤ _
      omega
    | form f ts =>
      unfold Tm.d
      rw [Tm.ds_map]
      have : PyData.depthAll (ts.map Tm.d) ≤ 3 * (Tm.form f ts).ht - 3 := depth_le _ _ fun d hd => by
        obtain ⟨k, hk, rfl⟩ := List.mem_map.mp hd
        have h1 := ih k hk
        have h2 := Tm.ht_kid (t := .form f ts) hk
        omega
      show max 0 (PyData.depthAll (ts.map Tm.d)) + 1 ≤ _
      omega
    | int n => unfold Tm.d; show max 0 (max 0 0) + 1 ≤ _; omega
    | name n => unfold Tm.d; show max 0 (max 0 0) + 1 ≤ _; omega
    | addr n => unfold Tm.d; show max 0 (max 0 0) + 1 ≤ _; omega
    | var n => unfold Tm.d; show max 0 (max 0 0) + 1 ≤ _; omega
theorem slims : ∀ {ds : List PyData}, (∀ d ∈ ds, slim d = true) → slimAll ds = true
  | [], _ => by unfold slimAll; rfl
  | d :: r, h => by
    unfold slimAll
    rw [h d List.mem_cons_self, slims fun x hx => h x (List.mem_cons_of_mem _ hx)]; rfl
theorem slimT {ds : List PyData} (h1 : ds.length ≤ 1000) (h : ∀ d ∈ ds, slim d = true) : slim (.tuple ds) = true := by
  unfold slim
  rw [decide_eq_true h1, slims h]; rfl
theorem slim_fok {sig : List (Str × Nat)} {ms : List Str} {t : Tm} (h : FOk sig ms t) : slim t.d = true := by
  have ss : ∀ x : Str, slim (.str x) = true := fun x => by unfold slim; rfl
  have si : ∀ x : Int, slim (.int x) = true := fun x => by unfold slim; rfl
  have two : ∀ {a b : PyData}, slim a = true → slim b = true → slim (.tuple [a, b]) = true := fun h1 h2 => slimT (by show 2 ≤ 1000; decide) fun d hd => by
    rcases List.mem_cons.mp hd with rfl | hd
    · exact h1
    · rw [List.mem_singleton.mp hd]; exact h2
  induction t using Tm.ind with
  | h t ih =>
    have hl := h.at_
    cases t with
    | node c ts =>
      have hl : ts.length ≤ 8 := hl.2.2
      unfold Tm.d
      rw [Tm.ds_map]
      refine slimT (by show 3 ≤ 1000; decide) fun d hd => ?_
      rcases List.mem_cons.mp hd with rfl | hd
      · exact ss _
      rcases List.mem_cons.mp hd with rfl | hd
      · exact ss _
      rw [List.mem_singleton.mp hd]
      refine slimT (by rw [List.length_map]; omega) fun d hd => ?_
      obtain ⟨k, hk, rfl⟩ := List.mem_map.mp hd
      exact ih k hk (h.kid hk)
    | map es =>
      have hl : es.length ≤ 8 := hl.1
      unfold Tm.d
      rw [Tm.es_map]
      refine two (ss _) (slimT (by rw [List.length_map]; omega) fun d hd => ?_)
      obtain ⟨e, he, rfl⟩ := List.mem_map.mp hd
      have hk : e.2 ∈ (Tm.map es).kids := List.mem_map.mpr ⟨e, he, rfl⟩
      exact two (ss _) (ih e.2 hk (h.kid hk))
    | form f ts =>
      have hl : ts.length ≤ 3 := hl.2
      unfold Tm.d
      rw [Tm.ds_map]
      refine slimT (by rw [List.length_cons, List.length_map]; omega) fun d hd => ?_
      rcases List.mem_cons.mp hd with rfl | hd
      · exact ss _
      obtain ⟨k, hk, rfl⟩ := List.mem_map.mp hd
      exact ih k hk (h.kid hk)
    | int n => unfold Tm.d; exact two (ss _) (si _)
    | name n => unfold Tm.d; exact two (ss _) (ss _)
    | addr n => unfold Tm.d; exact two (ss _) (si _)
    | var n => unfold Tm.d; exact two (ss _) (ss _)
theorem mem_firsts (l : List Str) (x : Str) : x ∈ firsts l ↔ x ∈ l := by
  have : ∀ (l acc : List Str), x ∈ l.foldl (fun acc x => if x ∈ acc then acc else acc ++ [x]) acc ↔ x ∈ acc ∨ x ∈ l := fun l => by
    induction l with
    | nil => intro acc; simp
    | cons a r ih =>
      intro acc
      rw [List.foldl_cons, ih]
      by_cases h : a ∈ acc
      · rw [if_pos h, List.mem_cons]
        constructor
        · rintro (h1 | h1)
          · exact .inl h1
          · exact .inr (.inr h1)
        · rintro (h1 | rfl | h1)
          · exact .inl h1
          · exact .inl h
          · exact .inr h1
      · rw [if_neg h, List.mem_cons, List.mem_append, List.mem_singleton]
        constructor
        · rintro ((h1 | h1) | h1)
          · exact .inl h1
          · exact .inr (.inl h1)
          · exact .inr (.inr h1)
        · rintro (h1 | h1 | h1)
          · exact .inl (.inl h1)
          · exact .inl (.inr h1)
          · exact .inr h1
  have := this l []
  unfold firsts
  simpa using this
theorem parts_fok {sig : List (Str × Nat)} {ws : List Str} {t : Tm} (h : FOk sig ws t) : ∀ k ∈ t.parts, FOk sig ws k := by
  induction t using Tm.ind with
  | h t ih =>
    intro k hk
    rw [Tm.parts_eq] at hk
    rcases List.mem_cons.mp hk with rfl | hk
    · exact h
    · obtain ⟨l, hl, hk⟩ := List.mem_flatten.mp hk
      obtain ⟨c, hc, rfl⟩ := List.mem_map.mp hl
      exact ih c hc (h.kid hc) k hk
theorem al_ht (t : Tm) : ∀ n, t.ht ≤ n → Al (fun k => k.ht ≤ n) t := by
  induction t using Tm.ind with
  | h t ih => exact fun n hn => .mk hn fun k hk => ih k hk n (by have := Tm.ht_kid hk; omega)
theorem parts_al {P : Tm → Prop} {t : Tm} (h : Al P t) : ∀ k ∈ t.parts, P k := by
  induction t using Tm.ind with
  | h t ih =>
    intro k hk
    rw [Tm.parts_eq] at hk
    rcases List.mem_cons.mp hk with rfl | hk
    · exact h.at_
    · obtain ⟨l, hl, hk⟩ := List.mem_flatten.mp hk
      obtain ⟨c, hc, rfl⟩ := List.mem_map.mp hl
      exact ih c hc (h.kid hc) k hk
def spTold (K : PySem.W.Frag) : Sp := fun vs H Q _ => ∃ (v : V) (t : Tm) (sig : List (Str × Nat)) (ws : List Str), vs = [v] ∧ Dt K H v t.d ∧ FOk sig ws t ∧ t.size ≤ 200 ∧ t.ht ≤ 56 ∧ ∀ H', Same H H' → Q (.bl true) H'
section
variable {P : Program} {w : World} {K : PySem.W.Frag} {mg : Str → Option Value} {base : Heap} {aS CL CP aF : Addr}
abbrev s_law_told : Stmt := topS 58
theorem sc_law_told : FnScope ["term", "row", "metas", "first", "plain", "part", "k"] ["term"] (defScope s_law_told) := ⟨rfl, rfl, rfl, by decide +kernel, rfl, by decide +kernel, by decide +kernel⟩
-- slots: 0:term 1:row 2:metas(cell) 3:first 4:plain 5:part(comp) 6:k(comp)
theorem ok_told {f : Addr} {fd : FuncData} (F : Fun K "_law_told" "_law_told" s_law_told f fd) (T : TxtW K mg aS CL CP) (C_law_all : C8.Cal P w K mg base 58 "_law_all" (spAll K 57) []) (C_law_deep : C8.Cal P w K mg base 58 "_law_deep" (spDeep K 57) []) (C_law_direct : C8.Cal P w K mg base 1 "_law_direct" (spKids K) []) (C_law_same : C8.Cal P w K mg base 200 "_law_same" (spSame K 199) [])
    (C_size : C8.Cal P w K mg base 4 "size" (spSize K) []) (C_height : C8.Cal P w K mg base 2 "height" (spHeight K) []) (C_metavariables : C8.Cal P w K mg base 5 "metavariables" (spMetas K) []) (C_is_ground : C8.Cal P w K mg base 5 "is_ground" (spGround K) []) (C_is_pattern : C8.Cal P w K mg base 6 "is_pattern" (spPattern K) []) (C_children : C8.Cal P w K mg base 1 "children" (spKidsV K) []) (C_parts_of : GenF.CalG P w K mg base 3 "parts_of" (spParts K)) : FnOk P w K mg base CX0 201 f fd ["term"] (spTold K) := by
  refine F.ok sc_law_told (fun vs H Q E h => ?_) (fun cdv A outer s H vs Q E hr h => ?_)
  · obtain ⟨_, _, _, _, rfl, _⟩ := h
    rfl
  obtain ⟨v, t, sig, ws, rfl, hv, ok, hsz, hht, q⟩ := h
  refine ⟨_, (pss_cons (ps_set (i := 1) sc_law_told.nd rfl (Or.inl rfl) (C8.pe_c C_law_all hr (by decide) rfl (pa_cons (pv 0) pa_nil)))
    (pss_cons (ps_set (i := 2) sc_law_told.nd rfl (Or.inr rfl) (pe_lc (own := [("part", 5)]) (g := (gName 5)) (by rfl) sc_law_told.nd (pi_list (pv 1)) (blkOk_by (N := ["term", "row", "metas", "first", "plain", "part", "k"]) (sc := defScope s_law_told) (by decide +kernel)) (fun _ _ _ _ _ => (pg_name (i := 5) sc_law_told.nd rfl (Or.inl rfl))) (fun _ _ _ _ _ => pts_one (pt_cmpR op_eq (pe_ix (r := rIxT K) ix_tup (pv 5) pe_int (fun _ _ => rfl)) pe_str (nomark _))) (fun _ _ _ _ _ => (pe_ix (r := rIxT K) ix_tup (pv 5) pe_int (fun _ _ => rfl)))))
    (pss_cons (ps_setLc (i := 3) (own := [("k", 6)]) (g := (gName 6)) (by rfl) sc_law_told.nd rfl rfl (sw_true rfl rfl rfl (by decide +kernel)) (pi_range1 (by rfl) T.z_range (pa_cons (pe_callB call_lenS (by rfl) T.z_len (by decide +kernel) (pa_cons (pv 2) pa_nil)) pa_nil)) (blkOk_by (N := ["term", "row", "metas", "first", "plain", "part", "k"]) (sc := defScope s_law_told) (by decide +kernel)) (fun _ _ _ _ _ => (pg_name (i := 6) sc_law_told.nd rfl (Or.inl rfl))) (fun _ _ _ _ _ => pts_one (pt_cmpR (r := rIn K true) op_notIn_seq (pe_ix (r := rIxL K) ix_list (pv 2) (pv 6) (fun _ _ => rfl)) (pe_slice (r := rSlL K) sl_list (pv 2) po_none (po_some (pv 6))) rfl)) (fun _ _ _ _ _ => (pe_ix (r := rIxL K) ix_list (pv 2) (pv 6) (fun _ _ => rfl))))
    (C8.pss_cut (ps_set (i := 4) sc_law_told.nd rfl (Or.inl rfl) (pe_and (pe_cmpR op_eq (pe_callB call_len_seq (by rfl) T.z_len (by decide +kernel) (pa_cons (pv 3) pa_nil)) (pe_callB call_lenS (by rfl) T.z_len (by decide +kernel) (pa_cons (pv 2) pa_nil)) (nomark _)) (pe_one (pe_callB (cr_all (by rfl)) (by rfl) T.z_all (by decide +kernel) (pa_cons (pe_lc (own := [("part", 5)]) (g := (gName 5)) (tt := tYes) (by rfl) sc_law_told.nd (pi_list (pv 1)) (blkOk_by (N := ["term", "row", "metas", "first", "plain", "part", "k"]) (sc := defScope s_law_told) (by decide +kernel)) (fun _ _ _ _ _ => (pg_name (i := 5) sc_law_told.nd rfl (Or.inl rfl))) (fun _ _ _ _ _ => pts_nil) (fun _ _ _ _ _ => (pe_cmpR op_ne (pe_ix (r := rIxT K) ix_tup (pv 5) pe_int (fun _ _ => rfl)) pe_str (nomark _)))) pa_nil)))))
    (pss_cons (ps_if (PW.pt (pw_or (pt_not (pt_val (C8.pe_c C_law_same hr (by decide) rfl (pa_cons (C8.pe_c C_size hr (by decide) rfl (pa_cons (pv 0) pa_nil)) (pa_cons (pe_callB call_len_seq (by rfl) T.z_len (by decide +kernel) (pa_cons (pv 1) pa_nil)) pa_nil))))) (pw_or1 (pt_not (pt_val (C8.pe_c C_law_same hr (by decide) rfl (pa_cons (C8.pe_c C_height hr (by decide) rfl (pa_cons (pv 0) pa_nil)) (pa_cons (C8.pe_c C_law_deep hr (by decide) rfl (pa_cons (pv 0) pa_nil)) pa_nil)))))))) (pss_one (ps_ret pe_bl)) pss_nil)
    (pss_cons (ps_if (PW.pt (pw_or (pt_not (pt_val (C8.pe_c C_law_same hr (by decide) rfl (pa_cons (C8.pe_c C_metavariables hr (by decide) rfl (pa_cons (pv 0) pa_nil)) (pa_cons (pv 3) pa_nil))))) (pw_or1 (pt_not (pt_val (C8.pe_c C_law_same hr (by decide) rfl (pa_cons (C8.pe_c C_is_ground hr (by decide) rfl (pa_cons (pv 0) pa_nil)) (pa_cons (pe_notT (pv 3)) pa_nil)))))))) (pss_one (ps_ret pe_bl)) pss_nil)
    (pss_cons (ps_if (PW.pt (pw_or (pt_not (pt_val (C8.pe_c C_law_same hr (by decide) rfl (pa_cons (C8.pe_c C_is_pattern hr (by decide) rfl (pa_cons (pv 0) pa_nil)) (pa_cons (pv 4) pa_nil))))) (pw_or1 (pt_not (pt_val (C8.pe_c C_law_same hr (by decide) rfl (pa_cons (C8.pe_c C_children hr (by decide) rfl (pa_cons (pv 0) pa_nil)) (pa_cons (C8.pe_c C_law_direct hr (by decide) rfl (pa_cons (pv 0) pa_nil)) pa_nil)))))))) (pss_one (ps_ret pe_bl)) pss_nil)
    (pss_one (ps_ret (C8.pe_c C_law_same hr (by decide) rfl (pa_cons (GenF.pe_lcG (own := [("part", 5)]) (g := (gName 5)) (tt := tYes) sc_law_told.nd (GenF.pig_c C_parts_of hr (by decide) rfl (pa_cons (pv 0) pa_nil)) (blkOk_by (N := ["term", "row", "metas", "first", "plain", "part", "k"]) (sc := defScope s_law_told) (by decide +kernel)) (fun _ _ _ _ _ => (pg_name (i := 5) sc_law_told.nd rfl (Or.inl rfl))) (fun _ _ _ _ _ => pts_nil) (fun _ _ _ _ _ => (pv 5))) (pa_cons (pv 1) pa_nil)))))))))))), ?_⟩
  have ts := Tm.parts_len t
  refine ⟨_, rfl, v, t, rfl, hv, by omega, by omega, fun H1 R xs s1 hR hR1 dR => ?_⟩
  have lx := dR.lenD
  rw [List.length_map] at lx
  refine ⟨_, rfl, R, rfl, ⟨_, SqL.of hR1⟩, fun M hM => lc_it (walk_list (xs := xs)) (fun i H' => Same H1 H' ∧ H' M = some (.lst (((t.parts.take i).filterMap vW).map V.str))) ⟨same_new hM, upd_same⟩ (fun i H' _ h => SqL.of (h.1 _ _ hR1)) ?_ ?_⟩
  · rintro i x H3 H3' hi ⟨s3, h3⟩ ⟨rfl, gx⟩
    obtain ⟨d, e1, dk⟩ := dR.getX gx
    rw [List.getElem?_map] at e1
    cases gk : t.parts[i]? with
    | none => rw [gk] at e1; cases e1
    | some k =>
    rw [gk] at e1
    cases e1
    have e4 : t.parts.take (i + 1) = t.parts.take i ++ [k] := by rw [List.take_add_one, gk]; rfl
    have dk2 := dk.same s3
    obtain ⟨b1, r1, rfl, hh1⟩ := Tm.dt_parts dk2
    rcases k.vor with ⟨w, rfl⟩ | hk
    · unfold Tm.d at dk2
      obtain ⟨b2, u2, w2, e2, hs2, k1, k2⟩ := Dt.t2 dk2
      cases e2
      obtain rfl := k2.s
      obtain rfl := k1.s
      have ln : ((t.parts.take i).filterMap vW).length ≤ 1000 := Nat.le_trans (List.length_filterMap_le _ _) (by rw [List.length_take]; omega)
      refine ⟨rfl, vTx rfl hs2 (atI_nat (j := 0) rfl) ⟨rfl, _, rfl, sT rfl (vTx rfl hs2 (atI_nat (j := 1) rfl) ⟨_, h3, smallL (by rw [List.length_map]; omega), Same.upd s3 hM, ?_⟩)⟩⟩
      rw [upd_same, e4, List.filterMap_append, List.map_append]; rfl
    · refine ⟨rfl, vTx rfl hh1 (atI_nat (j := 0) rfl) ⟨rfl, _, rfl, sF (Tm.hd_meta hk) ⟨s3, ?_⟩⟩⟩
      rw [h3, e4, List.filterMap_append]
      have : [k].filterMap vW = [] := by
        cases k with
        | var s => exact absurd rfl (hk s)
        | _ => rfl
      rw [this, List.append_nil]
  rintro H2 ⟨s2, hM2⟩
  have hM2 : H2 M = some (.lst (t.wordsOf.map V.str)) := by
    rw [lx, List.take_length] at hM2; exact hM2
  have lw : t.wordsOf.length ≤ 200 := Nat.le_trans (List.length_filterMap_le _ _) (by omega)
  have ew : t.wordsOf = t.parts.filterMap vW := rfl
  generalize hms : t.wordsOf = ms at hM2 lw
  refine ⟨_, rfl, M, _, rfl, .inl (SqL.of hM2), _, rfl, by rw [List.length_map]; omega, by rw [List.length_map]; omega, fun Fd hF => lc_it (walk_range (lo := 0) (n := (((ms.map V.str).length : Nat) : Int).toNat)) (fun i H' => Same H2 H' ∧ H' Fd = some (.lst ((firsts (ms.take i)).map V.str))) ⟨same_new hF, upd_same⟩ (fun _ _ _ _ => trivial) ?_ ?_⟩
  · rintro i x H3 H3' hi ⟨s3, h3⟩ ⟨rfl, rfl⟩
    rw [List.length_map] at hi
    have hi2 : i < ms.length := by omega
    have g0 : ms[i]? = some ms[i] := List.getElem?_eq_getElem _
    generalize ms[i] = w at g0
    have hM3 := s3 _ _ hM2
    have iz : (0 : Int) + (i : Nat) = (i : Nat) := Int.zero_add _
    have at0 : atI (ms.map V.str) ((0 : Int) + (i : Nat)) = some (.str w) := by rw [iz]; exact atI_nat (by rw [List.getElem?_map, g0]; rfl)
    refine ⟨rfl, _, rfl, _, rfl, M, _, (0 : Int) + (i : Nat), .str w, rfl, rfl, SqL.of hM3, at0, ?_⟩
    refine ⟨_, rfl, _, rfl, _, rfl, M, _, rfl, SqL.of hM3, fun p3 hp3 => ?_⟩
    have ec : cutV (ms.map V.str) none (some ((0 : Int) + (i : Nat))) = (ms.take i).map V.str := by
      rw [iz, cut_take _ i (by rw [List.length_map]; omega), List.map_take]
    rw [ec]
    refine ⟨p3, _, rfl, .inl (SqL.of upd_same), rfl, flat_strs (ms.take i), _, rfl, ?_⟩
    rw [inV_str w (ms.take i)]
    have s4 := s3.trans (same_new (o := .lst ((ms.take i).map V.str)) hp3)
    have nFp : Fd ≠ p3 := ne_of_none h3 hp3
    have h4 : (upd H3' p3 (.lst ((ms.take i).map V.str))) Fd = some (.lst ((firsts (ms.take i)).map V.str)) := by rw [upd_ne nFp]; exact h3
    have hM4 := s4 _ _ hM2
    generalize upd H3' p3 (.lst ((ms.take i).map V.str)) = H4 at s4 h4 hM4
    have lf := firsts_len (ms.take i)
    rw [List.length_take] at lf
    have eT : ms.take (i + 1) = ms.take i ++ [w] := by rw [List.take_add_one, g0]; rfl
    by_cases hin : w ∈ ms.take i
    · rw [decide_eq_true hin]
      refine iteF ⟨s4, ?_⟩
      rw [h4, eT, firsts_snoc, if_pos ((mem_firsts _ _).mpr hin)]
    · rw [decide_eq_false hin]
      refine iteT ⟨_, rfl, _, rfl, M, _, (0 : Int) + (i : Nat), .str w, rfl, rfl, SqL.of hM4, at0, _, h4, smallL (by rw [List.length_map]; omega), Same.upd s4 hF, ?_⟩
      rw [upd_same, eT, firsts_snoc, if_neg (fun h => hin ((mem_firsts _ _).mp h)), List.map_append]; rfl
  rintro H3 ⟨s3, hF3⟩
  have hF3 : H3 Fd = some (.lst ((firsts ms).map V.str)) := by
    rw [List.length_map, show ((ms.length : Nat) : Int).toNat = ms.length by omega, List.take_length] at hF3; exact hF3
  have s13 := s2.trans s3
  have hR3 := s13 _ _ hR1
  have dR3 := dR.same s13
  have hM3 := s3 _ _ hM2
  have lf := firsts_len ms
  have pb : t.patB = (decide (V.int ((firsts ms).length : Nat) = V.int (ms.length : Nat)) && t.parts.all fun k => !isM k) := by
    unfold Tm.patB
    rw [hms, Bool.and_comm]
    congr 1
    · exact decide_eq_decide.mpr ⟨fun h => h.symm, fun h => h.symm⟩
    · rw [List.not_any_eq_all_not]
  -- the law's own word on a pattern
  refine ⟨fun σ' H' => σ' = [some v, some (.ref R), some (.ref M), some (.ref Fd), some (.bl t.patB), none, none] ∧ Same H3 H', ?_, ?_⟩
  · refine ⟨_, rfl, Fd, _, rfl, .inl (SqL.of hF3), _, rfl, M, _, rfl, .inl (SqL.of hM3), rfl, _, rfl, ?_⟩
    rw [List.length_map, List.length_map]
    cases hc : decide (V.int ((firsts ms).length : Nat) = V.int (ms.length : Nat)) with
    | false =>
      rw [hc, Bool.false_and] at pb
      refine iteF ⟨?_, Same.refl _⟩
      rw [pb]; rfl
    | true =>
      rw [hc, Bool.true_and] at pb
      refine iteT ⟨_, rfl, R, rfl, ⟨_, SqL.of hR3⟩, fun D hD => lc_it (walk_list (xs := xs)) (fun i H' => Same H3 H' ∧ H' D = some (.lst (((t.parts.take i).map fun k => !isM k).map V.bl))) ⟨same_new hD, upd_same⟩ (fun i H' _ h => SqL.of (h.1 _ _ hR3)) ?_ ?_⟩
      · rintro i x H4 H4' hi ⟨s4, h4⟩ ⟨rfl, gx⟩
        obtain ⟨d, e1, dk⟩ := dR3.getX gx
        rw [List.getElem?_map] at e1
        cases gk : t.parts[i]? with
        | none => rw [gk] at e1; cases e1
        | some k =>
        rw [gk] at e1
        cases e1
        obtain ⟨b1, r1, rfl, hh1⟩ := Tm.dt_parts (dk.same s4)
        have ln : (t.parts.take i).length ≤ 1000 := by rw [List.length_take]; omega
        refine ⟨rfl, iteT (B := True) (vTx rfl hh1 (atI_nat (j := 0) rfl) ⟨rfl, _, h4, smallL (by rw [List.length_map, List.length_map]; omega), Same.upd s4 hD, ?_⟩)⟩
        rw [upd_same, List.take_add_one, gk, List.map_append, List.map_append]
        have : (!decide (V.str k.hd = V.str "map")) = !isM k := by
          cases k with
          | form f ts => cases f <;> rfl
          | _ => rfl
        rw [this]; rfl
      · rintro H4 ⟨s4, h4⟩
        rw [lx, List.take_length] at h4
        refine ⟨D, _, rfl, SqL.of h4, ?_, s4⟩
        have : ((t.parts.map fun k => !isM k).all id) = t.parts.all fun k => !isM k := by rw [List.all_map]; rfl
        rw [this, ← pb]; rfl
  rintro σ' H4 ⟨rfl, s4⟩
  have hR4 := s4 _ _ hR3
  have dR4 := dR3.same s4
  have hF4 := s4 _ _ hF3
  have s04 := (s1.trans s13).trans s4
  have hv4 := hv.same s04
  have si : ∀ n : Int, slim (.int n) = true := fun n => by unfold slim; rfl
  have sb : ∀ n : Bool, slim (.bool n) = true := fun n => by unfold slim; rfl
  have ss : ∀ x : Str, slim (.str x) = true := fun x => by unfold slim; rfl
  have hkl : t.kids.length ≤ 10000000 := by
    have h1 := szs_len t.kids
    have h2 := Tm.size_eq t
    unfold szs at h1
    omega
  clear dR3 dR hM3 hM2 hF3 hR3 hR1
  refine ⟨_, rfl, v, t, rfl, hv4, by omega, fun Ha sa => ⟨_, rfl, R, _, rfl, .inl (SqL.of (sa _ _ hR4)), ?_⟩⟩
  rw [show xs.length = t.size by rw [lx, ts]]
  refine ⟨_, _, .int (t.size : Nat), rfl, .int _, .int _, by show 0 < 199; decide, si _, fun Hb sb1 => ⟨_, rfl, iteF ?_⟩⟩
  have s4b := sa.trans sb1
  refine ⟨_, rfl, v, t, rfl, hv4.same s4b, by omega, fun Hc sc => ⟨_, rfl, v, t, rfl, (hv4.same s4b).same sc, by omega, by omega, fun Hd sd => ⟨_, _, .int ((t.ht - 1 : Nat) : Nat), rfl, .int _, .int _, by show 0 < 199; decide, si _, fun He se => ⟨_, rfl, iteF ?_⟩⟩⟩⟩
  have s4e := ((s4b.trans sc).trans sd).trans se
  have strsD : ∀ (Hx : Hp) (l : List Str), DtAll K Hx (l.map V.str) (l.map PyData.str) := fun Hx l => by
    induction l with
    | nil => exact .nil
    | cons a r ih => exact .cons (.str a) ih
  have deepS : ∀ l : List Str, (PyData.list (l.map PyData.str)).depth < 199 := fun l => by
    have : PyData.depthAll (l.map PyData.str) ≤ 0 := depth_le _ _ fun d hd => by
      obtain ⟨x, _, rfl⟩ := List.mem_map.mp hd
      exact Nat.le_refl _
    show PyData.depthAll (l.map PyData.str) + 1 < 199
    omega
  have slimL : ∀ {ds : List PyData}, ds.length ≤ 1000 → (∀ d ∈ ds, slim d = true) → slim (.list ds) = true := fun {ds} h1 h => by
    unfold slim
    rw [decide_eq_true h1, slims h]; rfl
  have hF5 := s4e _ _ hF4
  have hv5 := hv4.same s4e
  refine ⟨_, rfl, v, t, rfl, hv5, by omega, fun Hf p sf hp hpf => ⟨_, rfl, .ref p, .ref Fd, .list ((firsts ms).map .str), rfl, ?_, ?_, deepS _, slimL (by rw [List.length_map]; omega) (fun d hd => by obtain ⟨x, _, rfl⟩ := List.mem_map.mp hd; exact ss x), fun Hg sg => ⟨_, rfl, iteF ?_⟩⟩⟩
  · rw [hms] at hpf
    exact .lst (SqL.of hpf) (DtAll.dp _ _ (strsD _ _))
  · exact .lst (SqL.of (sf _ _ hF5)) (DtAll.dp _ _ (strsD _ _))
  have s5g := sf.trans sg
  have hF6 := s5g _ _ hF5
  refine ⟨_, rfl, v, t, rfl, hv5.same s5g, by omega, fun Hh sh => ⟨_, rfl, !((firsts ms).map V.str).isEmpty, .inl ⟨_, SqL.of (sh _ _ hF6), rfl⟩, ?_⟩⟩
  have eg : (!!((firsts ms).map V.str).isEmpty) = t.wordsOf.isEmpty := by
    rw [Bool.not_not, hms]
    cases ms with
    | nil => rfl
    | cons a r =>
      have h1 : a ∈ firsts (a :: r) := (mem_firsts _ _).mpr List.mem_cons_self
      cases e : firsts (a :: r) with
      | nil => rw [e] at h1; cases h1
      | cons _ _ => rfl
  rw [eg]
  refine ⟨_, _, .bool t.wordsOf.isEmpty, rfl, .bl _, .bl _, by show 0 < 199; decide, sb _, fun Hi shi => ⟨_, rfl, iteF ?_⟩⟩
  have s5i := (s5g.trans sh).trans shi
  refine ⟨_, rfl, v, t, rfl, hv5.same s5i, by omega, fun Hj sj => ⟨_, rfl, _, _, .bool t.patB, rfl, .bl _, .bl _, by show 0 < 199; decide, sb _, fun Hk sk => ⟨_, rfl, iteF ?_⟩⟩⟩
  have s5k := (s5i.trans sj).trans sk
  have hv6 := hv5.same s5k
  have fok : ∀ k ∈ t.kids, FOk sig ws k := fun k hk => ok.kid hk
  refine ⟨_, rfl, v, t, Hk, rfl, fun _ _ h => h, hv6, hkl, fun Hl p1 w1 sl hq1 dk1 => ⟨_, rfl, v, t, rfl, hv6.same sl, hkl, fun Hm p2 w2 sm hq2 dk2 => ⟨.ref p1, .ref p2, .tuple (t.kids.map Tm.d), rfl, .tup (Same.seqT sm hq1) (DtAll.dp _ _ ((dk1.same sl).same sm)), .tup hq2 (DtAll.dp _ _ dk2), ?_, ?_, fun Hn sn => ⟨_, rfl, iteF ?_⟩⟩⟩⟩
  · have : PyData.depthAll (t.kids.map Tm.d) ≤ 3 * t.ht := depth_le _ _ fun d hd => by
      obtain ⟨k, hk, rfl⟩ := List.mem_map.mp hd
      have h1 := tm_dep (t := k)
      have h2 := Tm.ht_kid hk
      omega
    show PyData.depthAll (t.kids.map Tm.d) + 1 < 199
    omega
  · refine slimT ?_ fun d hd => ?_
    · rw [List.length_map]
      have h1 := szs_len t.kids
      have h2 := Tm.size_eq t
      unfold szs at h1
      omega
    · obtain ⟨k, hk, rfl⟩ := List.mem_map.mp hd
      exact slim_fok (fok k hk)
  have s5n := ((s5k.trans sl).trans sm).trans sn
  have hv7 := hv5.same s5n
  refine ⟨_, rfl, _, _, ⟨v, t, rfl, hv7, by omega, rfl, rfl⟩, fun G e1 e2 e3 D hD => ?_⟩
  refine lcS (K := K) (GenF.walk_genE e1 e2 e3) hD (by omega) (fun ds => ds = (t.parts.take ds.length).map Tm.d) rfl (fun H' s b xs r => r.elim (fun h => .inl (s _ _ h)) fun ⟨o, h⟩ => .inr ⟨o, s _ _ h⟩) ?_ ?_
  · rintro i z H3 H2 ds R hi s2 ⟨rfl, k, gk, dk⟩ jd len r
    have tk : GenF.TK Hn H2 := fun b xs r => r.elim (fun h => .inl (s2 _ _ h)) fun ⟨o, h⟩ => .inr ⟨o, s2 _ _ h⟩
    refine ⟨rfl, _, rfl, r k.d z H2 (Same.refl _) (Dt.mono tk.sq _ _ dk) ?_⟩
    rw [List.length_append, len, show i + [k.d].length = i + 1 from rfl, List.take_add_one, gk, List.map_append]
    rw [len] at jd
    rw [← jd]; rfl
  · rintro H2 vs ds s2 hw da len jd
    rw [len, ← ts, List.take_length] at jd
    subst jd
    have sR := (s4e.trans s5n).trans s2
    refine ⟨_, rfl, .ref D, .ref R, .list (t.parts.map Tm.d), rfl, .lst (SqL.of hw) (DtAll.dp _ _ da), .lst (SqL.of (sR _ _ hR4)) (DtAll.dp _ _ (dR4.same sR)), ?_, slimL (by rw [List.length_map]; omega) (fun d hd => ?_), fun H9 s9 => q H9 (((s04.trans sR)).trans s9)⟩
    · have : PyData.depthAll (t.parts.map Tm.d) ≤ 3 * t.ht := depth_le _ _ fun d hd => by
        obtain ⟨k, hk, rfl⟩ := List.mem_map.mp hd
        have h1 := tm_dep (t := k)
        have h2 := (parts_al (P := fun k => k.ht ≤ t.ht) (al_ht t _ (Nat.le_refl _)) k hk)
        omega
      show PyData.depthAll (t.parts.map Tm.d) + 1 < 199
      omega
    · obtain ⟨k, hk, rfl⟩ := List.mem_map.mp hd
      exact slim_fok (parts_fok ok k hk)
end
end PK
namespace PK
open PySem L2 _root_.TL
/-! what the law wants -/
theorem eqU {k : Nat} {A : Around} (hr : Room k A) : A.units + 190 < cLine := by have := hr.un; omega
theorem lay_all : ∀ {ds : List PyData}, (∀ d ∈ ds, d.canLay0 = true) → PyData.canLayAll0 ds = true
  | [], _ => rfl
  | d :: r, h => by
    show (d.canLay0 && PyData.canLayAll0 r) = true
    rw [h d List.mem_cons_self, lay_all fun x hx => h x (List.mem_cons_of_mem _ hx)]; rfl
theorem lay_tup {ds : List PyData} (h : ∀ d ∈ ds, d.canLay0 = true) : (PyData.tuple ds).canLay0 = true := lay_all h
theorem lay_str {x : Str} (h : SOk x) : (PyData.str x).canLay0 = true := h
theorem FOk.lay {sig : List (Str × Nat)} {ms : List Str} {t : Tm} (h : FOk sig ms t) : t.d.canLay0 = true := by
  have w : ∀ x ∈ (["int", "name", "addr", "meta", "node", "map"] : List Str), SOk x := by decide +kernel
  induction t using Tm.ind with
  | h t ih =>
    have hl := h.at_
    have two : ∀ (a : Str) (x : PyData), a ∈ (["int", "name", "addr", "meta", "node", "map"] : List Str) → x.canLay0 = true → (PyData.tuple [.str a, x]).canLay0 = true := fun a x ha hx => lay_tup fun d hd => by
      rcases List.mem_cons.mp hd with rfl | hd
      · exact w _ ha
      · rw [List.mem_singleton.mp hd]; exact hx
    cases t with
    | node c ts =>
      unfold Tm.d
      rw [Tm.ds_map]
      refine lay_tup fun d hd => ?_
      rcases List.mem_cons.mp hd with rfl | hd
      · exact w "node" (by decide)
      rcases List.mem_cons.mp hd with rfl | hd
      · exact hl.1.sok
      rw [List.mem_singleton.mp hd]
      refine lay_tup fun d hd => ?_
      obtain ⟨k, hk, rfl⟩ := List.mem_map.mp hd
      exact ih k hk (h.kid hk)
    | map es =>
      unfold Tm.d
      rw [Tm.es_map]
      refine two _ _ (by decide) (lay_tup fun d hd => ?_)
      obtain ⟨e, he, rfl⟩ := List.mem_map.mp hd
      have hk : e.2 ∈ (Tm.map es).kids := List.mem_map.mpr ⟨e, he, rfl⟩
      unfold Tm.ent
      refine lay_tup fun d hd => ?_
      rcases List.mem_cons.mp hd with rfl | hd
      · exact (hl.2.1 e he).2.sok
      · rw [List.mem_singleton.mp hd]; exact ih e.2 hk (h.kid hk)
    | form f ts =>
      unfold Tm.d
      rw [Tm.ds_map]
      refine lay_tup fun d hd => ?_
      rcases List.mem_cons.mp hd with rfl | hd
      · cases f <;> decide +kernel
      obtain ⟨k, hk, rfl⟩ := List.mem_map.mp hd
      exact ih k hk (h.kid hk)
    | int n => unfold Tm.d; exact two _ _ (by decide) rfl
    | name n => unfold Tm.d; exact two _ _ (by decide) hl.2.sok
    | addr n => unfold Tm.d; exact two _ _ (by decide) rfl
    | var n => unfold Tm.d; exact two _ _ (by decide) hl.2.sok
theorem few_ok {cs : List Nat} {ks : List Tk} {ms : List Str} (hl : Lays cs ks) (h : ∀ w, Tk.name w ∈ ks → w ∈ ms) (lm : ms.length < 64) : ∃ N : List Str, N.length < 64 ∧ ∀ w p, (Tk.name w, p) ∈ toks cs → w ∈ N := by
  refine ⟨ms, lm, fun w p hw => ?_⟩
  have e : (toks cs).map (·.1) = ks ++ [.fin] := by
    unfold toks
    rw [List.map_append, hl 0]; rfl
  have : Tk.name w ∈ (toks cs).map (·.1) := List.mem_map.mpr ⟨_, hw, rfl⟩
  rw [e] at this
  rcases List.mem_append.mp this with h1 | h1
  · exact h w h1
  · cases List.mem_singleton.mp h1
theorem low_ok {sh : Int} {sig : List (Str × Nat)} (ok : SigOk sh sig) : ∀ e ∈ sig, e.2 ≤ 1000 := fun e he => by
  obtain ⟨i, hi, e2⟩ := List.mem_iff_getElem.mp he
  have := (ok.2 i e (by rw [List.getElem?_eq_getElem hi, e2])).2.2.2
  omega
theorem read_is {sig : List (Str × Nat)} {t : Tm} {ks : List Tk} {cs : List Nat} (hl : Lays cs ks) (flt : FlT sig t ks) (ht : t.ht ≤ 60) : pRead sig cs = .ok t.rm := text_ok hl (flt 60 ht) (Nat.le_refl _)
theorem rdx {K : PySem.W.Frag} {CB CD CL : Addr} {H : Hp} {Q : VK} {E : XK} {dS : Addr} {x : Str} {sig : List (Str × Nat)} {sh : Int} {ms ms' : List Str} {t : Tm} {ks : List Tk} (hS : H dS = some (.dK (sigK sig))) (hx : x.length ≤ 4000) (sok : SigOk sh sig) (tok : TOk sig ms t) (ht : t.ht ≤ 60)
    (hl : Lays x.cps.toList ks) (flt : FlT sig t ks) (few : ∀ w, Tk.name w ∈ ks → w ∈ ms') (lm : ms'.length < 64) (q : ∀ v H', Same H H' → Dt K H' v t.d → Q v H') : spRead K CB CD CL [.ref dS, .str x] H Q E := by
  refine ⟨dS, x, sig, rfl, hS, by omega, fun _ => ⟨toks_ok (by rw [← len_list]; exact hx) (few_ok hl few lm) (low_ok sok), ?_⟩, fun z => by omega⟩
  rw [read_is hl flt ht]
  intro v H' s dv
  rw [rm_d tok] at dv
  exact q v H' s dv
theorem eqv_hd {a b : Tm} (h : PyData.eqv a.d b.d = true) : a.hd = b.hd := by
  obtain ⟨r, e1⟩ := a.d_hd
  obtain ⟨s, e2⟩ := b.d_hd
  rw [e1, e2] at h
  have h1 : (PyData.eqv (.str a.hd) (.str b.hd) && PyData.eqvAll r s) = true := h
  rw [Bool.and_eq_true] at h1
  have h2 : (a.hd == b.hd) = true := h1.1
  exact beq_iff_eq.mp h2
theorem fo_eqv {sig : List (Str × Nat)} {ms : List Str} {m t : Tm} (hm : m = t ∨ isFo m) (ht : TOk sig ms t) (h : PyData.eqv m.d t.d = true) : m = t := by
  rcases hm with e | ⟨f, ts, rfl⟩
  · exact e
  · have e := eqv_hd h
    have hl := ht.at_
    have all : ∀ x ∈ (["int", "addr", "name", "meta", "map", "node"] : List Str), f.s ≠ x := by cases f <;> decide +kernel
    have nf : f.s ≠ t.hd := by
      cases t with
      | form g us => exact hl.elim
      | int _ => exact all "int" (by decide +kernel)
      | name _ => exact all "name" (by decide +kernel)
      | addr _ => exact all "addr" (by decide +kernel)
      | var _ => exact all "meta" (by decide +kernel)
      | map _ => exact all "map" (by decide +kernel)
      | node _ _ => exact all "node" (by decide +kernel)
    exact absurd e nf
/-! words that are none -/
theorem bad_in {x : Str} {c : Nat} (h : c ∈ x.cps.toList) (hc : c ∉ OTH.cps.toList) : isWd x = false := by
  unfold isWd
  have : (x.cps.toList.all fun s => decide (s ∈ OTH.cps.toList)) = false := by
    rw [Bool.eq_false_iff]
    intro e
    exact hc (of_decide_eq_true (List.all_eq_true.mp e c h))
  rw [this, Bool.and_false, Bool.and_false]
theorem bad_len {x : Str} (h : 12 < x.length) : isWd x = false := by
  unfold isWd
  rw [decide_eq_false (by omega), Bool.false_and]
theorem bad_few : ∀ x ∈ (["", "A", "_a", "9", "-", "a-b"] : List Str), isWd x = false := by decide +kernel
theorem good_few : ∀ x ∈ (["abcdefghijkl", "a_9"] : List Str), isWd x = true := by decide +kernel
end PK
set_option maxHeartbeats 4000000
namespace PK
open PySem L2 _root_.TL
/-! the law -/
def spLaw (K : PySem.W.Frag) : Sp := fun vs H Q _ => ∃ (a : Addr) (ns : List Int), vs = [.ref a] ∧ SqL K H a (ns.map V.int) ∧ ns.length ≤ 63 ∧ ∀ H', Q (.bl true) H'
theorem with_self (m : Tm) : m.withKids m.kids = m := by
  cases m with
  | map es =>
    show Tm.map (List.zipWith (fun e k => (e.1, k)) es (es.map Prod.snd)) = Tm.map es
    congr 1
    induction es with
    | nil => rfl
    | cons e r ih => rw [List.map_cons, List.zipWith_cons_cons, ih]
  | _ => rfl
theorem zip_fst : ∀ (es : List (Str × Tm)) (us : List Tm), us.length = es.length → (List.zipWith (fun (e : Str × Tm) (k : Tm) => (e.1, k)) es us).map Prod.fst = es.map Prod.fst
  | [], _, _ => by rw [List.zipWith_nil_left, List.map_nil]
  | e :: r, [], h => by cases h
  | e :: r, u :: us, h => by rw [List.zipWith_cons_cons, List.map_cons, List.map_cons, zip_fst r us (by simpa using h)]
theorem with_fok {sig : List (Str × Nat)} {ws : List Str} {m : Tm} {us : List Tm} (h : FOk sig ws m) (hl : us.length = m.kids.length) (hu : ∀ u ∈ us, FOk sig ws u) : FOk sig ws (m.withKids us) := by
  have hk := Tm.kids_with hl
  have ha := h.at_
  refine .mk ?_ fun k hkk => hu k (by rw [hk] at hkk; exact hkk)
  cases m with
  | node c ts =>
    have hl : us.length = ts.length := hl
    exact ⟨ha.1, by rw [hl]; exact ha.2.1, by rw [hl]; exact ha.2.2⟩
  | form f ts =>
    have hl : us.length = ts.length := hl
    refine ⟨fun e => ha.1 ?_, by rw [hl]; exact ha.2⟩
    rw [e] at hl
    exact List.length_eq_zero_iff.mp hl.symm
  | map es =>
    have hl : us.length = es.length := by rw [hl]; exact List.length_map ..
    have e1 : (List.zipWith (fun (e : Str × Tm) (k : Tm) => (e.1, k)) es us).map Prod.fst = es.map Prod.fst := zip_fst es us hl
    refine ⟨by rw [List.length_zipWith, hl]; have := ha.1; omega, fun e he => ?_, by rw [e1]; exact ha.2.2.1, by rw [e1]; exact ha.2.2.2⟩
    have h1 : e.1 ∈ es.map Prod.fst := by rw [← e1]; exact List.mem_map.mpr ⟨e, he, rfl⟩
    obtain ⟨x, hx, ex⟩ := List.mem_map.mp h1
    rw [← ex]
    exact ha.2.1 x hx
  | int n => exact ha
  | name n => exact ha
  | addr n => exact ha
  | var n => exact ha
theorem cutS_len (z : Str) (lo hi : Option Int) : (cutS z lo hi).length ≤ z.length := by
  rw [len_list, len_list]
  show ((z.cps.toList.drop _).take _).length ≤ _
  rw [List.length_take, List.length_drop]; omega
theorem bad_rep {x : Str} (h : Wd x) : isWd (PKR.repS (cutS x none (some 1)) 13) = false ∧ (PKR.repS (cutS x none (some 1)) 13).length ≤ 100 := by
  have e : (PKR.repS (cutS x none (some 1)) 13).length = 13 := by
    have ne : x.cps.toList ≠ [] := by
      obtain ⟨s, r, e, _⟩ := h.hd
      rw [e]; exact fun z => nomatch z
    rw [len_list, PKR.repS_list, List.length_flatten, List.map_replicate, List.sum_replicate_nat, cut_hd x ne]
    rfl
  exact ⟨bad_len (by rw [e]; decide), by rw [e]; decide⟩
theorem bad_app {x y : Str} {c : Nat} (h : c ∈ y.cps.toList) (hc : c ∉ OTH.cps.toList) : isWd (x ++ y) = false := bad_in (by rw [app_list]; exact List.mem_append.mpr (.inr h)) hc
section
variable {P : Program} {w : World} {K : PySem.W.Frag} {mg : Str → Option Value} {base : Heap} {aS CB CD CL CP : Addr}
abbrev s_law : Stmt := topS 59
theorem sc_law : FnScope ["script", "pool", "shift", "signature", "words", "term", "formed", "text", "word", "parts", "others", "k"] ["script"] (defScope s_law) := ⟨rfl, rfl, rfl, by decide +kernel, rfl, by decide +kernel, by decide +kernel⟩
-- slots: 0:script 1:pool(cell) 2:shift(cell) 3:signature 4:words 5:term 6:formed 7:text 8:word 9:parts 10:others 11:k(comp)
theorem ok_law {f : Addr} {fd : FuncData} (F : Fun K "law" "law" s_law f fd) (T : TxtW K mg aS CL CP) (C_law_pool : C8.Cal P w K mg base 1 "_law_pool" (spPool K) []) (C_law_take : C8.Cal P w K mg base 2 "_law_take" (spTake 2) []) (C_law_word : C8.Cal P w K mg base 3 "_law_word" spLWord [])
    (C_law_signature : C8.Cal P w K mg base 4 "_law_signature" spSig []) (C_law_term : C8.Cal P w K mg base 6 "_law_term" (spTerm K) []) (C_law_formed : C8.Cal P w K mg base 4 "_law_formed" (spFormed K) []) (C_law_text : C8.Cal P w K mg base 60 "_law_text" (spText K 60) []) (C_law_same : C8.Cal P w K mg base 200 "_law_same" (spSame K 199) []) (C_write_term : C8.Cal P w K mg base 4 "write_term" (spWrite K) []) (C_law_told : C8.Cal P w K mg base 201 "_law_told" (spTold K) [])
    (C_read_term : CalR P w K mg base 128 "read_term" (spRead K CB CD CL)) (C_is_word : C8.Cal P w K mg base 1 "is_word" spWord []) (C_law_direct : C8.Cal P w K mg base 1 "_law_direct" (spKids K) []) (C_rebuild : C8.Cal P w K mg base 1 "rebuild" (spRebuild K) []) (C_rebuildT : C8.Cal P w K mg base 1 "rebuild" (spRebuildT K) []) (C_law_put : C8.Cal P w K mg base 1 "_law_put" (spPut K) []) : FnOk P w K mg base CX0 202 f fd ["script"] (spLaw K) := by
  refine F.ok sc_law (fun vs H Q E h => ?_) (fun cdv A outer s H vs Q E hr h => ?_)
  · obtain ⟨a, ns, rfl, _⟩ := h
    rfl
  obtain ⟨a, ns, rfl, ha, hn, q⟩ := h
  refine ⟨_, (pss_cons (ps_set (i := 1) sc_law.nd rfl (Or.inr rfl) (C8.pe_c C_law_pool hr (by decide) rfl (pa_cons (pv 0) pa_nil)))
    (pss_cons (ps_set (i := 2) sc_law.nd rfl (Or.inr rfl) (C8.pe_c C_law_take hr (by decide) rfl (pa_cons (pv 1) (pa_cons pe_int pa_nil))))
    (pss_cons (ps_set (i := 3) sc_law.nd rfl (Or.inl rfl) (C8.pe_c C_law_signature hr (by decide) rfl (pa_cons (pv 1) (pa_cons (pv 2) pa_nil))))
    (pss_cons (ps_setLc (i := 4) (own := [("k", 11)]) (g := (gName 11)) (tt := tYes) (by rfl) sc_law.nd rfl rfl (sw_true rfl rfl rfl (by decide +kernel)) (pi_range1 (by rfl) T.z_range (pa_cons pe_int pa_nil)) (blkOk_by (N := ["script", "pool", "shift", "signature", "words", "term", "formed", "text", "word", "parts", "others", "k"]) (sc := defScope s_law) (by decide +kernel)) (fun _ _ _ _ _ => (pg_name (i := 11) sc_law.nd rfl (Or.inl rfl))) (fun _ _ _ _ _ => pts_nil) (fun _ _ _ _ _ => (C8.pe_c C_law_word hr (by decide) rfl (pa_cons (pv 1) (pa_cons (pe_op op_add pe_int (pv 11)) (pa_cons (pv 2) pa_nil))))))
    (pss_cons (ps_set (i := 5) sc_law.nd rfl (Or.inl rfl) (C8.pe_c C_law_term hr (by decide) rfl (pa_cons (pv 1) (pa_cons (pv 3) (pa_cons (pv 4) (pa_cons (pv 4) (pa_cons pe_int pa_nil)))))))
    (pss_cons (ps_set (i := 6) sc_law.nd rfl (Or.inl rfl) (C8.pe_c C_law_formed hr (by decide) rfl (pa_cons (pv 1) (pa_cons (pv 5) (pa_cons (pv 4) pa_nil)))))
    (pss_cons (ps_set (i := 7) sc_law.nd rfl (Or.inl rfl) (C8.pe_c C_law_text hr (by decide) rfl (pa_cons (pv 6) pa_nil)))
    (pss_cons (ps_if (PW.pt (pw_or (pt_not (pt_val (C8.pe_c C_law_same hr (by decide) rfl (pa_cons (C8.pe_c C_write_term hr (by decide) rfl (pa_cons (pv 6) pa_nil)) (pa_cons (pv 7) pa_nil))))) (pw_or1 (pt_not (pt_val (C8.pe_c C_law_told hr (by decide) rfl (pa_cons (pv 6) pa_nil))))))) (pss_one (ps_ret pe_bl)) pss_nil)
    (C8.pss_cut (ps_if (PW.pt (pw_and (pt_cmpR op_le (pe_callB call_len_str (by rfl) T.z_len (by decide +kernel) (pa_cons (pv 7) pa_nil)) pe_int (nomark _)) (pw_and (pt_cmpR (PKE.op_eqN (n := 190) (eqU hr)) (pv 6) (pv 5) (nomark _)) (pw_and1 (pt_not (pt_val (C8.pe_c C_law_same hr (by decide) rfl (pa_cons (pe_crS C_read_term takes0 hr (by decide) rfl (pa_cons (pv 3) (pa_cons (pv 7) pa_nil))) (pa_cons (pv 5) pa_nil))))))))) (pss_one (ps_ret pe_bl)) pss_nil)
    (pss_cons (ps_for PassesOwn.never rfl (pi_list (pe_op op_cat (pv 4) (pe_lst (pa_cons pe_str (pa_cons pe_str pa_nil))))) (pg_name (i := 8) sc_law.nd rfl (Or.inl rfl)) (pss_one (ps_if (pt_cmpR op_isnot_bl (C8.pe_c C_is_word hr (by decide) rfl (pa_cons (pv 8) pa_nil)) pe_bl (nomark _)) (pss_one (ps_ret pe_bl)) pss_nil)))
    (pss_cons (ps_for PassesOwn.never rfl (pi_list (pe_lst (pa_cons pe_str (pa_cons pe_str (pa_cons pe_str (pa_cons pe_str (pa_cons (pe_op PKR.op_repS (pe_slice sl_str (pe_ix ix_list (pv 4) pe_int (fun _ _ => rfl)) po_none (po_some pe_int)) pe_int) (pa_cons (pe_op op_add_str (pe_ix ix_list (pv 4) pe_int (fun _ _ => rfl)) pe_str) (pa_cons (pe_op op_add_str (pe_slice sl_str (pe_ix ix_list (pv 4) pe_int (fun _ _ => rfl)) po_none (po_some pe_int)) pe_str) (pa_cons pe_str (pa_cons pe_str pa_nil))))))))))) (pg_name (i := 8) sc_law.nd rfl (Or.inl rfl)) (pss_one (ps_if (pt_cmpR op_isnot_bl (C8.pe_c C_is_word hr (by decide) rfl (pa_cons (pv 8) pa_nil)) pe_bl (nomark _)) (pss_one (ps_ret pe_bl)) pss_nil)))
    (pss_cons (ps_set (i := 9) sc_law.nd rfl (Or.inl rfl) (C8.pe_c C_law_direct hr (by decide) rfl (pa_cons (pv 6) pa_nil)))
    (pss_cons (ps_if (pt_not (pt_truth (pv 9) (by intro _; rfl))) (pss_one (ps_ret pe_bl)) pss_nil)
    (pss_cons (ps_setLc (i := 10) (own := [("k", 11)]) (g := (gName 11)) (tt := tYes) (by rfl) sc_law.nd rfl rfl (sw_true rfl rfl rfl (by decide +kernel)) (pi_range1 (by rfl) T.z_range (pa_cons (pe_callB call_lenS (by rfl) T.z_len (by decide +kernel) (pa_cons (pv 9) pa_nil)) pa_nil)) (blkOk_by (N := ["script", "pool", "shift", "signature", "words", "term", "formed", "text", "word", "parts", "others", "k"]) (sc := defScope s_law) (by decide +kernel)) (fun _ _ _ _ _ => (pg_name (i := 11) sc_law.nd rfl (Or.inl rfl))) (fun _ _ _ _ _ => pts_nil) (fun _ _ _ _ _ => (pe_tup (pa_cons pe_str (pa_cons (pv 11) pa_nil)))))
    (pss_cons (ps_if (PW.pt (pw_or (pt_not (pt_val (C8.pe_c C_law_same hr (by decide) rfl (pa_cons (C8.pe_c C_rebuild hr (by decide) rfl (pa_cons (pv 6) (pa_cons (pe_callTy call_list_of (by rfl) T.z_list (by decide +kernel) (pa_cons (pv 9) pa_nil)) pa_nil))) (pa_cons (pv 6) pa_nil))))) (pw_or1 (pt_not (pt_val (C8.pe_c C_law_same hr (by decide) rfl (pa_cons (C8.pe_c C_rebuildT hr (by decide) rfl (pa_cons (pv 6) (pa_cons (pv 9) pa_nil))) (pa_cons (pv 6) pa_nil)))))))) (pss_one (ps_ret pe_bl)) pss_nil)
    (pss_one (ps_ret (pe_and (C8.pe_c C_law_same hr (by decide) rfl (pa_cons (C8.pe_c C_rebuild hr (by decide) rfl (pa_cons (pv 6) (pa_cons (pv 10) pa_nil))) (pa_cons (C8.pe_c C_law_put hr (by decide) rfl (pa_cons (pv 6) (pa_cons (pv 10) pa_nil))) pa_nil))) (pe_one (pe_cmpR op_eq (pe_callB call_len_seq (by rfl) T.z_len (by decide +kernel) (pa_cons (pv 10) pa_nil)) (pe_callB call_lenS (by rfl) T.z_len (by decide +kernel) (pa_cons (pv 9) pa_nil)) (nomark _))))))))))))))))))))), ?_⟩
  refine ⟨_, rfl, a, ns, rfl, ha, hn, fun H0 l c s0 hl0 P0 => ?_⟩
  refine vTake rfl P0 (by decide) (by decide) fun sh H1 sh0 sh1 x1 => ?_
  refine ⟨_, rfl, _, rfl, l, c, sh, rfl, x1.pool, fun H2 R sig x2 hR1 hR2 sok => ?_⟩
  have nR : R ≠ l := (x1.pool.ne hR1).1
  have P2 := x2.pool
  refine ⟨5, rfl, by decide, by decide, fun D3 hD3 => lcX (K := K) (walk_range (lo := 0) (n := (5 : Int).toNat)) P2 hD3 (by decide) (fun ds => ∃ ss : List Str, ds = ss.map PyData.str ∧ ∀ z ∈ ss, Wd z) ⟨[], rfl, fun _ h => absurd h List.not_mem_nil⟩ (fun _ _ => trivial) ?_ ?_⟩
  · rintro i x H7 H7 ds R' hi x7 ⟨rfl, rfl⟩ ⟨ss, rfl, hss⟩ len r
    refine ⟨rfl, _, rfl, _, rfl, _, _, rfl, rfl, _, rfl, l, c, _, sh, rfl, x7.pool, fun H8 y x8 wy ty ny => ?_⟩
    refine r (.str y) _ _ x8 (.str y) ⟨ss ++ [y], by rw [List.map_append]; rfl, fun z hz => ?_⟩
    rcases List.mem_append.mp hz with h | h
    · exact hss z h
    · rw [List.mem_singleton.mp h]; exact wy
  rintro H3 vs3 ds3 x3 hv3 da3 len3 ⟨ws, rfl, hws⟩
  obtain rfl : vs3 = ws.map V.str := da3.strsE
  rw [List.length_map] at len3
  have len3 : ws.length = 5 := len3
  have W3 : Wl H3 l D3 ws := ⟨hv3, (P2.ne hD3).1, by omega, hws⟩
  have nw : ws ≠ [] := fun e => by rw [e] at len3; cases len3
  have hs3 := x3.keep _ _ nR hR2
  refine ⟨_, rfl, _, rfl, _, rfl, _, rfl, l, c, R, D3, D3, sig, ws, ws, sh, 150, rfl, x3.pool, nR, hs3, sok, W3, ⟨nw, fun _ h => h⟩, W3, by decide, by decide, fun yv t H4 x4 dt tok tht tsz => ?_⟩
  have hs4 := x4.keep _ _ nR hs3
  have P4 := x4.pool
  have W4 := W3.ext x4
  refine ⟨_, rfl, _, rfl, _, rfl, l, c, D3, yv, t, sig, ws, rfl, P4, dt, tok, W4, len3, fun H5 xv m x5 dm mok msz mht mf => ?_⟩
  have hs5 := x5.keep _ _ nR hs4
  have W5 := W4.ext x5
  have dt5 := dt.ext P4 x5
  refine ⟨_, rfl, xv, m, sig, ws, rfl, dm, mok, by omega, by omega, fun H6 text s6 etext => ?_⟩
  have tsz : t.size ≤ 150 := tsz
  have ss : ∀ x : Str, slim (.str x) = true := fun x => by unfold slim; rfl
  have lcl := cl_len mok
  have ltx : text.length ≤ 10000 := by rw [len_list, etext]; omega
  have dm6 := dm.same s6
  have dt6 := dt5.same s6
  have hs6 := s6 _ _ hs5
  have W6 : H6 D3 = some (.lst (ws.map V.str)) := s6 _ _ W5.at_
  clear hD3 hv3 da3 x3 x4 x5 hs3 hs4 W3 W4 P4 P2 x2 x1 P0 hR1 hR2 hl0
  refine ⟨_, rfl, xv, m, sig, ws, rfl, dm6, mok, by omega, fun H7 r s7 er => ?_⟩
  obtain rfl : r = text := str_of (er.trans etext.symm)
  refine ⟨_, rfl, .str r, .str r, .str r, rfl, .str _, .str _, by show 0 < 199; decide, ss _, fun H8 s8 => ⟨_, rfl, iteF ?_⟩⟩
  refine ⟨_, rfl, xv, m, sig, ws, rfl, (dm6.same s7).same s8, mok, by omega, by omega, fun H9 s9 => ⟨_, rfl, iteF ?_⟩⟩
  have s69 := (s7.trans s8).trans s9
  have dm9 := dm6.same s69
  have dt9 := dt6.same s69
  have dpm := tm_dep (t := m)
  have dpt := tm_dep (t := t)
  have tht : t.ht ≤ 52 := tht
  have smt := slim_fok mok
  have stt := slim_fok tok.fok
  refine ⟨fun σ' H' => σ' = [some (.ref a), some (.ref l), some (.int sh), some (.ref R), some (.ref D3), some yv, some xv, some (.str r), none, none, none, none] ∧ Same H9 H', ?_, ?_⟩
  · refine ⟨_, rfl, r, rfl, small (by omega), _, _, rfl, rfl, _, rfl, ?_⟩
    cases hz : decide (((r.length : Nat) : Int) ≤ 4000) with
    | false => exact iteF (iteF ⟨rfl, Same.refl _⟩)
    | true =>
      have hr4 : r.length ≤ 4000 := by have := of_decide_eq_true hz; omega
      refine iteT ⟨_, rfl, _, rfl, _, _, Dt.dp _ _ dm9, Dt.dp _ _ dt9, mok.lay, tok.fok.lay, .inl (by omega), _, rfl, ?_⟩
      cases he : PyData.eqv m.d t.d with
      | false => exact iteF (iteF ⟨rfl, Same.refl _⟩)
      | true =>
        have emt := fo_eqv mf tok he
        subst emt
        obtain ⟨ks, h1, h2, h3⟩ := cl_lays sok tok
        refine iteT ⟨_, rfl, _, rfl, rdx (s69 _ _ hs6) hr4 sok tok (by omega) (by rw [etext]; exact h1.whole) h2 h3 (ms' := ws) (by omega) fun v1 H10 s10 dv => ?_⟩
        exact ⟨_, rfl, v1, yv, m.d, rfl, Dt.dp _ _ dv, Dt.dp _ _ (dt9.same s10), by omega, stt, fun H11 s11 => ⟨_, rfl, iteF ⟨rfl, s10.trans s11⟩⟩⟩
  rintro σ' H10 ⟨rfl, s10⟩
  have s610 := s69.trans s10
  have W10 := s610 _ _ W6
  have dm10 := dm9.same s10
  have good : ∀ z ∈ ws ++ (["abcdefghijkl", "a_9"] : List Str), isWd z = true ∧ z.length ≤ 100 := fun z hz => by
    rcases List.mem_append.mp hz with h | h
    · have := (hws z h).hi
      exact ⟨wd_is (hws z h), by omega⟩
    · refine ⟨good_few z h, ?_⟩
      have : ∀ z ∈ (["abcdefghijkl", "a_9"] : List Str), z.length ≤ 100 := by decide +kernel
      exact this z h
  refine ⟨_, rfl, small (by show 2 ≤ _; decide), fun p1 hp1 => ⟨D3, p1, _, _, rfl, rfl, (same_new hp1) _ _ W10, upd_same, small (by rw [List.length_map, len3]; decide), fun p2 hp2 => ?_⟩⟩
  have s11 := (same_new (o := .lst [.str "abcdefghijkl", .str "a_9"]) hp1).trans (same_new (o := .lst (ws.map V.str ++ [.str "abcdefghijkl", .str "a_9"])) hp2)
  have hp2' : (upd (upd H10 p1 (.lst [.str "abcdefghijkl", .str "a_9"])) p2 (.lst (ws.map V.str ++ [.str "abcdefghijkl", .str "a_9"]))) p2 = some (.lst ((ws ++ (["abcdefghijkl", "a_9"] : List Str)).map V.str)) := by rw [upd_same, List.map_append]; rfl
  generalize upd (upd H10 p1 (.lst [.str "abcdefghijkl", .str "a_9"])) p2 (.lst (ws.map V.str ++ [.str "abcdefghijkl", .str "a_9"])) = H11 at s11 hp2'
  refine ⟨p2, rfl, ⟨_, SqL.of hp2'⟩, for_it (walk_list (xs := (ws ++ (["abcdefghijkl", "a_9"] : List Str)).map V.str)) (fun i σ H' => ∃ o : Option V, σ = [some (.ref a), some (.ref l), some (.int sh), some (.ref R), some (.ref D3), some yv, some xv, some (.str r), o, none, none, none] ∧ Same H11 H') ⟨none, rfl, Same.refl _⟩ (fun i σ H' _ z => by obtain ⟨_, _, s⟩ := z; exact SqL.of (s _ _ hp2')) (fun i x σ H2 H' hi z y => ?_) (fun σ H12 z => ?_)⟩
  · obtain ⟨rfl, gx⟩ := y
    obtain ⟨o, rfl, sm⟩ := z
    rw [List.getElem?_map] at gx
    cases gz : (ws ++ (["abcdefghijkl", "a_9"] : List Str))[i]? with
    | none => rw [gz] at gx; cases gx
    | some z =>
    rw [gz] at gx
    cases gx
    obtain ⟨g1, g2⟩ := good z (List.mem_of_getElem? gz)
    refine ⟨_, rfl, z, rfl, by omega, fun H3 s3 => ⟨_, _, rfl, rfl, _, rfl, ?_⟩⟩
    rw [g1, decide_eq_true rfl]
    exact iteF ⟨_, rfl, sm.trans s3⟩
  obtain ⟨o12, rfl, s12⟩ := z
  have s1012 := s11.trans s12
  have W12 := s1012 _ _ W10
  obtain ⟨w0, w1, w2, wr, ews⟩ : ∃ w0 w1 w2 wr, ws = w0 :: w1 :: w2 :: wr := by
    cases ws with
    | nil => cases len3
    | cons a r => cases r with
      | nil => cases len3
      | cons b r => cases r with
        | nil => cases len3
        | cons c r => exact ⟨a, b, c, r, rfl⟩
  have wd0 : Wd w0 := hws w0 (by rw [ews]; simp)
  have wd1 : Wd w1 := hws w1 (by rw [ews]; simp)
  have wd2 : Wd w2 := hws w2 (by rw [ews]; simp)
  have a0 : atI (ws.map V.str) 0 = some (.str w0) := atI_nat (j := 0) (by rw [ews]; rfl)
  have a1 : atI (ws.map V.str) 1 = some (.str w1) := atI_nat (j := 1) (by rw [ews]; rfl)
  have a2 : atI (ws.map V.str) 2 = some (.str w2) := atI_nat (j := 2) (by rw [ews]; rfl)
  have i0 := wd0.hi
  have i1 : w1.length ≤ 12 := wd1.hi
  have i2 := wd2.hi
  have c0 := cutS_len w0 none (some 1)
  have c2 := cutS_len w2 none (some 11)
  obtain ⟨br1, br2⟩ := bad_rep wd0
  refine ⟨_, rfl, D3, _, 0, .str w0, rfl, rfl, SqL.of W12, a0, _, rfl, w0, rfl, small (by omega), _, 13, rfl, rfl, by decide, by decide, by omega, ?_⟩
  refine ⟨_, rfl, D3, _, 1, .str w1, rfl, rfl, SqL.of W12, a1, _, _, rfl, rfl, small (by show w1.length + 1 ≤ _; omega), ?_⟩
  refine ⟨_, rfl, D3, _, 2, .str w2, rfl, rfl, SqL.of W12, a2, _, rfl, w2, rfl, small (by omega), _, _, rfl, rfl, small (by show (cutS w2 none (some 11)).length + 1 ≤ _; omega), small (by show 9 ≤ _; decide), fun p3 hp3 => ?_⟩
  have bad : ∀ z ∈ (["", "A", "_a", "9", PKR.repS (cutS w0 none (some 1)) 13, w1 ++ " ", cutS w2 none (some 11) ++ "Z", "-", "a-b"] : List Str), isWd z = false ∧ z.length ≤ 100 := fun z hz => by
    have few : ∀ z ∈ (["", "A", "_a", "9", "-", "a-b"] : List Str), z.length ≤ 100 := by decide +kernel
    have c32 : (32 : Nat) ∈ (" " : Str).cps.toList ∧ 32 ∉ OTH.cps.toList := by decide +kernel
    have c90 : (90 : Nat) ∈ ("Z" : Str).cps.toList ∧ 90 ∉ OTH.cps.toList := by decide +kernel
    have fw : ∀ z : Str, z ∈ (["", "A", "_a", "9", "-", "a-b"] : List Str) → isWd z = false ∧ z.length ≤ 100 := fun z h => ⟨bad_few z h, few z h⟩
    rcases List.mem_cons.mp hz with rfl | hz
    · exact fw _ (by decide +kernel)
    rcases List.mem_cons.mp hz with rfl | hz
    · exact fw _ (by decide +kernel)
    rcases List.mem_cons.mp hz with rfl | hz
    · exact fw _ (by decide +kernel)
    rcases List.mem_cons.mp hz with rfl | hz
    · exact fw _ (by decide +kernel)
    rcases List.mem_cons.mp hz with rfl | hz
    · exact ⟨br1, br2⟩
    rcases List.mem_cons.mp hz with rfl | hz
    · exact ⟨bad_app c32.1 c32.2, by rw [Str.length_append]; show w1.length + 1 ≤ _; omega⟩
    rcases List.mem_cons.mp hz with rfl | hz
    · exact ⟨bad_app c90.1 c90.2, by rw [Str.length_append]; show _ + 1 ≤ _; omega⟩
    rcases List.mem_cons.mp hz with rfl | hz
    · exact fw _ (by decide +kernel)
    rw [List.mem_singleton.mp hz]
    exact fw _ (by decide +kernel)
  generalize hbs : (["", "A", "_a", "9", PKR.repS (cutS w0 none (some 1)) 13, w1 ++ " ", cutS w2 none (some 11) ++ "Z", "-", "a-b"] : List Str) = bs at bad
  have s13 := same_new (o := .lst (bs.map V.str)) hp3
  have hp3' : (upd H12 p3 (.lst (bs.map V.str))) p3 = some (.lst (bs.map V.str)) := upd_same
  have eH : upd H12 p3 (.lst [V.str "", .str "A", .str "_a", .str "9", .str (PKR.repS (cutS w0 none (some 1)) (13 : Int).toNat), .str (w1 ++ " "), .str (cutS w2 none (some 11) ++ "Z"), .str "-", .str "a-b"]) = upd H12 p3 (.lst (bs.map V.str)) := by rw [← hbs]; rfl
  show _
  refine ⟨p3, rfl, ⟨bs.map V.str, ?_⟩, ?_⟩
  · exact SqL.of (by rw [← hbs]; exact upd_same)
  have goalH : ∀ {R : Hp → Prop}, R (upd H12 p3 (.lst (bs.map V.str))) → R (upd H12 p3 (.lst [V.str "", .str "A", .str "_a", .str "9", .str (PKR.repS (cutS w0 none (some 1)) (13 : Int).toNat), .str (w1 ++ " "), .str (cutS w2 none (some 11) ++ "Z"), .str "-", .str "a-b"])) := fun {R} h => by rw [eH]; exact h
  refine goalH (R := fun HH => _) ?_
  generalize upd H12 p3 (.lst (bs.map V.str)) = H13 at s13 hp3'
  refine for_it (walk_list (xs := bs.map V.str)) (fun i σ H' => ∃ o : Option V, σ = [some (.ref a), some (.ref l), some (.int sh), some (.ref R), some (.ref D3), some yv, some xv, some (.str r), o, none, none, none] ∧ Same H13 H') ⟨o12, rfl, Same.refl _⟩ (fun i σ H' _ z => by obtain ⟨_, _, s⟩ := z; exact SqL.of (s _ _ hp3')) (fun i x σ H2 H' hi z y => ?_) (fun σ H14 z => ?_)
  · obtain ⟨rfl, gx⟩ := y
    obtain ⟨o, rfl, sm⟩ := z
    rw [List.getElem?_map] at gx
    cases gz : bs[i]? with
    | none => rw [gz] at gx; cases gx
    | some z =>
    rw [gz] at gx
    cases gx
    obtain ⟨g1, g2⟩ := bad z (List.mem_of_getElem? gz)
    refine ⟨_, rfl, z, rfl, by omega, fun H3 s3 => ⟨_, _, rfl, rfl, _, rfl, ?_⟩⟩
    rw [g1, decide_eq_true rfl]
    exact iteF ⟨_, rfl, sm.trans s3⟩
  obtain ⟨o14, rfl, s14⟩ := z
  have dm14 := dm10.same ((s1012.trans s13).trans s14)
  have hkl : m.kids.length ≤ 1000 := by
    have h1 := szs_len m.kids
    have h2 := Tm.size_eq m
    unfold szs at h1
    omega
  refine ⟨_, rfl, xv, m, rfl, dm14, by omega, fun H15 pk wk s15 hk dk => ?_⟩
  have lwk := dk.lenD
  rw [List.length_map] at lwk
  refine ⟨_, rfl, !wk.isEmpty, .inr (.inl ⟨wk, hk, rfl⟩), ?_⟩
  by_cases hne : wk = []
  · rw [hne]
    exact iteT (q _)
  have hemp : wk.isEmpty = false := by cases wk with
    | nil => exact absurd rfl hne
    | cons _ _ => rfl
  have hpos : 0 < wk.length := List.length_pos_iff.mpr hne
  rw [hemp]
  refine iteF ?_
  refine ⟨_, rfl, pk, _, rfl, .inr hk, _, rfl, by omega, by omega, fun D hD => lcS (K := K) (walk_range (lo := 0) (n := ((wk.length : Nat) : Int).toNat)) hD (by omega) (fun ds => ds = ((List.range ds.length).map fun (k : Nat) => Tm.int (k : Int)).map Tm.d) rfl (fun _ _ => trivial) ?_ ?_⟩
  · rintro i x H2 H2' ds R' hi s ⟨rfl, rfl⟩ jd len rr
    refine ⟨rfl, _, rfl, small (by show 2 ≤ _; decide), fun p hp => ?_⟩
    have iz : (0 : Int) + (i : Nat) = (i : Nat) := Int.zero_add _
    refine rr (Tm.int (i : Nat)).d _ _ (same_new hp) ?_ ?_
    · unfold Tm.d
      show Dt K (upd H2' p (.tup [.str "int", .int ((0 : Int) + (i : Nat))])) _ _
      rw [iz]
      exact Dt.mk2 hp (.str _) (.int _)
    · rw [List.length_append, len, show i + [(Tm.int (i : Nat)).d].length = i + 1 from rfl, List.range_succ, List.map_append, List.map_append]
      rw [len] at jd
      rw [← jd]; rfl
  rintro H16 vs ds s16 hw da len jd
  rw [len, show ((wk.length : Nat) : Int).toNat = wk.length by omega] at jd
  generalize hus : (List.range wk.length).map (fun (k : Nat) => Tm.int (k : Int)) = us at jd
  subst jd
  have lus : us.length = m.kids.length := by rw [← hus, List.length_map, List.length_range, lwk]
  have lvs := da.lenD
  rw [List.length_map] at lvs
  have dm16 := (dm14.same s15).same s16
  have hk16 := Same.seqT s16 hk
  have dk16 := dk.same s16
  have ufok : ∀ u ∈ us, FOk sig ws u ∧ u.ht ≤ 1 := fun u hu => by
    rw [← hus] at hu
    obtain ⟨k, hk2, rfl⟩ := List.mem_map.mp hu
    have := List.mem_range.mp hk2
    have lf : LeafOk sig ws (.int (k : Int)) := leafOk_of (show -1000000000000000 < (k : Int) ∧ (k : Int) < 1000000000000000 by omega) rfl
    exact ⟨lf.ok, by have := lf.ht; omega⟩
  have wok := with_fok mok lus fun u hu => (ufok u hu).1
  have wht : (m.withKids us).ht ≤ 2 := Tm.ht_le fun k hk2 => by
    rw [Tm.kids_with lus] at hk2
    exact (ufok k hk2).2
  have wdp := tm_dep (t := m.withKids us)
  have ws := with_self m
  refine ⟨_, rfl, _, rfl, pk, wk, rfl, .inr hk16, fun L hL => ?_⟩
  have sL := same_new (o := .lst wk) hL
  have wself := with_self m
  refine ⟨xv, m, L, wk, m.kids, rfl, dm16.same sL, SqL.of upd_same, dk16.same sL, rfl, by omega, fun Ha v1 sa d1 => ?_⟩
  rw [wself] at d1
  refine ⟨_, rfl, v1, xv, m.d, rfl, Dt.dp _ _ d1, Dt.dp _ _ ((dm16.same sL).same sa), by omega, smt, fun Hb sb => ⟨_, rfl, iteF ?_⟩⟩
  have s16b := (sL.trans sa).trans sb
  refine ⟨_, rfl, _, rfl, xv, m, pk, wk, m.kids, rfl, dm16.same s16b, Same.seqT s16b hk16, dk16.same s16b, rfl, by omega, fun Hc v2 sc d2 => ?_⟩
  rw [wself] at d2
  refine ⟨_, rfl, v2, xv, m.d, rfl, Dt.dp _ _ d2, Dt.dp _ _ ((dm16.same s16b).same sc), by omega, smt, fun Hd sd => ⟨_, rfl, iteF ?_⟩⟩
  have s16d := (s16b.trans sc).trans sd
  have hD16 := s16d _ _ hw
  have da16 := da.same s16d
  have dmd := dm16.same s16d
  refine ⟨_, rfl, _, rfl, xv, m, D, vs, us, rfl, dmd, SqL.of hD16, da16, lus, by omega, fun He v3 se d3 => ?_⟩
  refine ⟨_, rfl, _, rfl, xv, m, D, vs, us, rfl, dmd.same se, se _ _ hD16, da16.same se, lus, by omega, by omega, fun Hf v4 sf d4 => ?_⟩
  refine ⟨v3, v4, (m.withKids us).d, rfl, Dt.dp _ _ (d3.same sf), Dt.dp _ _ d4, by omega, slim_fok wok, fun Hg sg => ⟨_, rfl, iteT ?_⟩⟩
  have s16g := ((s16d.trans se).trans sf).trans sg
  refine ⟨_, rfl, D, vs, rfl, .inl (SqL.of (s16g _ _ hw)), _, rfl, pk, wk, rfl, .inr (Same.seqT s16g hk16), rfl, ?_⟩
  rw [show vs.length = wk.length by omega, decide_eq_true rfl]
  exact q _
end
end PK
namespace PK
open PySem L2
section
variable {P : Program} {w : World} {K : PySem.W.Frag} {mg : Str → Option Value} {base : Heap}
theorem none_okX {f : Addr} {fd : FuncData} {ps : List Str} {sp : Sp} {k : Nat} (no : ∀ vs H Q E, ¬ sp vs H Q E) : FnOk P w K mg base (L2.CX P w) k f fd ps sp :=
  ⟨fun vs H Q E h => absurd h (no vs H Q E), fun A outer s H args us vs Q E _ _ _ _ h => absurd h (no vs H Q E)⟩
theorem none_ok {f : Addr} {fd : FuncData} {ps : List Str} {sp : Sp} {k : Nat} (no : ∀ vs H Q E, ¬ sp vs H Q E) : FnOk P w K mg base CX0 k f fd ps sp :=
  ⟨fun vs H Q E h => absurd h (no vs H Q E), fun A outer s H args us vs Q E _ _ _ _ h => absurd h (no vs H Q E)⟩
theorem cal_mk {x : Str} {f : Addr} {fd : FuncData} {ps : List Str} {sp : Sp} {k : Nat} (G : FnOk P w K mg base CX0 k f fd ps sp) (m : mg x = some (.ref f)) (kp : PySem.W.keepIn K (.ref f) = true) (b : Binds K fd ps []) : C8.Cal P w K mg base k x sp [] :=
  ⟨f, fd, ps, [], G, m, kp, b, .nil⟩
end
theorem exm_self {K : PySem.W.Frag} {S : Addr} (h1 : PySem.W.subIn K (.ref S) (.type "BaseException") = some true) (h2 : PySem.W.isClsIn K S = true) (h3 : PySem.W.typeIn K (.ref S) = some (.type "type")) (h4 : PySem.W.subIn K (.ref S) (.ref S) = some true) :
    PySem.W.exmOne K (.ref S) (.ref S) = some true := by
  have e1 : (PySem.W.subIn K (.ref S) (.type "BaseException") == some true) = true := by rw [h1] <;> rfl
  have e2 : ((PySem.W.clsIn K S).isSome && PySem.W.typeIn K (.ref S) == some (.type "type")) = true := by
    have h2' : (PySem.W.clsIn K S).isSome = true := h2
    rw [h2', h3] <;> rfl
  show (if (PySem.W.subIn K (.ref S) (.type "BaseException") == some true) = true then (if ((PySem.W.clsIn K S).isSome && PySem.W.typeIn K (.ref S) == some (.type "type")) = true then PySem.W.subIn K (.ref S) (.ref S) else none) else none) = some true
  rw [if_pos e1, if_pos e2]
  exact h4
theorem kit_t {K : PySem.W.Frag} {D C : Addr} (h1 : PySem.W.isClsIn K C = true) (h2 : PySem.W.typeIn K (.ref C) = some (.type "type")) (h3 : PySem.W.subIn K (.ref D) (.ref C) = some true) : PySem.W.kitOne K (.ref D) (.ref C) = some true := by
  have h1' : (PySem.W.clsIn K C).isSome = true := h1
  unfold PySem.W.kitOne
  split
  · rfl
  · show (if ((PySem.W.clsIn K C).isSome && PySem.W.typeIn K (.ref C) == some (.type "type")) = true then PySem.W.subIn K (.ref D) (.ref C) else none) = some true
    rw [if_pos (by rw [h1', h2] <;> rfl)]
    exact h3
theorem kit_v {K : PySem.W.Frag} {D : Addr} (h : PySem.W.subIn K (.ref D) (.type "ValueError") = some true) : PySem.W.kitOne K (.ref D) (.type "ValueError") = some true := by
  unfold PySem.W.kitOne
  split
  · rfl
  · show (if PySem.W.kitMeta "ValueError" = true then PySem.W.subIn K (.ref D) (.type "ValueError") else none) = some true
    rw [if_pos (by decide +kernel)]
    exact h
set_option maxHeartbeats 0 in
theorem all_mk {l : PySem.W.OpenLaw} {w : World} {K : PySem.W.Frag} {h : Heap} {mg : Str → Option Value} {fa f1 f2 f3 f4 f5 f6 f7 f8 f9 f10 f11 f12 f13 f14 f15 f16 f17 f18 f19 f20 f21 f22 f23 f24 f25 f26 f27 f28 f29 f30 f31 f32 f33 f34 f35 f36 f37 f38 f39 : Addr} (X : K.In h) (G : h.Ns mainGlobals mg) (hfa : mg "law" = some (.ref fa))
    {od1 an1 od2 an2 od3 an3 od4 an4 od5 an5 od6 an6 od7 an7 od8 an8 od9 an9 od10 an10 od11 an11 od12 an12 od13 an13 od14 an14 od15 an15 od16 an16 od17 an17 od18 an18 od19 an19 od20 an20 od21 an21 od22 an22 od23 an23 od24 an24 od25 an25 od26 an26 od27 an27 od28 an28 od29 an29 od30 an30 od31 an31 od32 an32 od33 an33 od34 an34 od35 an35 od36 an36 od37 an37 od38 an38 od39 an39 : Option Addr} {sl1 sl2 sl3 sl4 sl5 sl6 sl7 sl8 sl9 sl10 sl11 sl12 sl13 sl14 sl15 sl16 sl17 sl18 sl19 sl20 sl21 sl22 sl23 sl24 sl25 sl26 sl27 sl28 sl29 sl30 sl31 sl32 sl33 sl34 sl35 sl36 sl37 sl38 sl39 : Array (Option Value)} {oc1 kV1 dc1 pm1 cd1 ct1 oc2 kV2 dc2 pm2 cd2 ct2 oc3 kV3 dc3 pm3 cd3 ct3 oc4 kV4 dc4 pm4 cd4 ct4 oc5 kV5 dc5 pm5 cd5 ct5 oc6 kV6 dc6 pm6 cd6 ct6 oc7 kV7 dc7 pm7 cd7 ct7 oc8 kV8 dc8 pm8 cd8 ct8 oc9 kV9 dc9 pm9 cd9 ct9 oc10 kV10 dc10 pm10 cd10 ct10 oc11 kV11 dc11 pm11 cd11 ct11 oc12 kV12 dc12 pm12 cd12 ct12 oc13 kV13 dc13 pm13 cd13 ct13 oc14 kV14 dc14 pm14 cd14 ct14 oc15 kV15 dc15 pm15 cd15 ct15 oc16 kV16 dc16 pm16 cd16 ct16 oc17 kV17 dc17 pm17 cd17 ct17 oc18 kV18 dc18 pm18 cd18 ct18 oc19 kV19 dc19 pm19 cd19 ct19 oc20 kV20 dc20 pm20 cd20 ct20 oc21 kV21 dc21 pm21 cd21 ct21 oc22 kV22 dc22 pm22 cd22 ct22 oc23 kV23 dc23 pm23 cd23 ct23 oc24 kV24 dc24 pm24 cd24 ct24 oc25 kV25 dc25 pm25 cd25 ct25 oc26 kV26 dc26 pm26 cd26 ct26 oc27 kV27 dc27 pm27 cd27 ct27 oc28 kV28 dc28 pm28 cd28 ct28 oc29 kV29 dc29 pm29 cd29 ct29 oc30 kV30 dc30 pm30 cd30 ct30 oc31 kV31 dc31 pm31 cd31 ct31 oc32 kV32 dc32 pm32 cd32 ct32 oc33 kV33 dc33 pm33 cd33 ct33 oc34 kV34 dc34 pm34 cd34 ct34 oc35 kV35 dc35 pm35 cd35 ct35 oc36 kV36 dc36 pm36 cd36 ct36 oc37 kV37 dc37 pm37 cd37 ct37 oc38 kV38 dc38 pm38 cd38 ct38 oc39 kV39 dc39 pm39 cd39 ct39 : Value}
    (a1 : PySem.W.nsIn K mainGlobals "is_word" = some (some (.ref f1))) (l1 : K.lookup f1 = some ⟨oc1, od1, .func (PySem.W.fnOf "is_word" "is_word" (defArgs s_is_word) (defBody s_is_word) (defScope s_is_word) .none kV1 dc1 pm1 an1 cd1 ct1), sl1⟩) (c1 : PySem.W.codeIn K cd1 "is_word" = true) (k1 : PySem.W.keepIn K (.ref f1) = true)
    (a2 : PySem.W.nsIn K mainGlobals "children" = some (some (.ref f2))) (l2 : K.lookup f2 = some ⟨oc2, od2, .func (PySem.W.fnOf "children" "children" (defArgs s_children) (defBody s_children) (defScope s_children) .none kV2 dc2 pm2 an2 cd2 ct2), sl2⟩) (c2 : PySem.W.codeIn K cd2 "children" = true) (k2 : PySem.W.keepIn K (.ref f2) = true)
    (a3 : PySem.W.nsIn K mainGlobals "rebuild" = some (some (.ref f3))) (l3 : K.lookup f3 = some ⟨oc3, od3, .func (PySem.W.fnOf "rebuild" "rebuild" (defArgs s_rebuild) (defBody s_rebuild) (defScope s_rebuild) .none kV3 dc3 pm3 an3 cd3 ct3), sl3⟩) (c3 : PySem.W.codeIn K cd3 "rebuild" = true) (k3 : PySem.W.keepIn K (.ref f3) = true)
    (a4 : PySem.W.nsIn K mainGlobals "parts_of" = some (some (.ref f4))) (l4 : K.lookup f4 = some ⟨oc4, od4, .func (PySem.W.fnOf "parts_of" "parts_of" (defArgs s_parts_of) (defBody s_parts_of) (defScope s_parts_of) .none kV4 dc4 pm4 an4 cd4 ct4), sl4⟩) (c4 : PySem.W.codeIn K cd4 "parts_of" = true) (k4 : PySem.W.keepIn K (.ref f4) = true)
    (a5 : PySem.W.nsIn K mainGlobals "size" = some (some (.ref f5))) (l5 : K.lookup f5 = some ⟨oc5, od5, .func (PySem.W.fnOf "size" "size" (defArgs s_size) (defBody s_size) (defScope s_size) .none kV5 dc5 pm5 an5 cd5 ct5), sl5⟩) (c5 : PySem.W.codeIn K cd5 "size" = true) (k5 : PySem.W.keepIn K (.ref f5) = true)
    (a6 : PySem.W.nsIn K mainGlobals "height" = some (some (.ref f6))) (l6 : K.lookup f6 = some ⟨oc6, od6, .func (PySem.W.fnOf "height" "height" (defArgs s_height) (defBody s_height) (defScope s_height) .none kV6 dc6 pm6 an6 cd6 ct6), sl6⟩) (c6 : PySem.W.codeIn K cd6 "height" = true) (k6 : PySem.W.keepIn K (.ref f6) = true)
    (a7 : PySem.W.nsIn K mainGlobals "_all_words" = some (some (.ref f7))) (l7 : K.lookup f7 = some ⟨oc7, od7, .func (PySem.W.fnOf "_all_words" "_all_words" (defArgs s_all_words) (defBody s_all_words) (defScope s_all_words) .none kV7 dc7 pm7 an7 cd7 ct7), sl7⟩) (c7 : PySem.W.codeIn K cd7 "_all_words" = true) (k7 : PySem.W.keepIn K (.ref f7) = true)
    (a8 : PySem.W.nsIn K mainGlobals "metavariables" = some (some (.ref f8))) (l8 : K.lookup f8 = some ⟨oc8, od8, .func (PySem.W.fnOf "metavariables" "metavariables" (defArgs s_metavariables) (defBody s_metavariables) (defScope s_metavariables) .none kV8 dc8 pm8 an8 cd8 ct8), sl8⟩) (c8 : PySem.W.codeIn K cd8 "metavariables" = true) (k8 : PySem.W.keepIn K (.ref f8) = true)
    (a9 : PySem.W.nsIn K mainGlobals "is_ground" = some (some (.ref f9))) (l9 : K.lookup f9 = some ⟨oc9, od9, .func (PySem.W.fnOf "is_ground" "is_ground" (defArgs s_is_ground) (defBody s_is_ground) (defScope s_is_ground) .none kV9 dc9 pm9 an9 cd9 ct9), sl9⟩) (c9 : PySem.W.codeIn K cd9 "is_ground" = true) (k9 : PySem.W.keepIn K (.ref f9) = true)
    (a10 : PySem.W.nsIn K mainGlobals "is_pattern" = some (some (.ref f10))) (l10 : K.lookup f10 = some ⟨oc10, od10, .func (PySem.W.fnOf "is_pattern" "is_pattern" (defArgs s_is_pattern) (defBody s_is_pattern) (defScope s_is_pattern) .none kV10 dc10 pm10 an10 cd10 ct10), sl10⟩) (c10 : PySem.W.codeIn K cd10 "is_pattern" = true) (k10 : PySem.W.keepIn K (.ref f10) = true)
    (a11 : PySem.W.nsIn K mainGlobals "read_term" = some (some (.ref f11))) (l11 : K.lookup f11 = some ⟨oc11, od11, .func (PySem.W.fnOf "read_term" "read_term" (defArgs s_read_term) (defBody s_read_term) (defScope s_read_term) .none kV11 dc11 pm11 an11 cd11 ct11), sl11⟩) (c11 : PySem.W.codeIn K cd11 "read_term" = true) (k11 : PySem.W.keepIn K (.ref f11) = true)
    (a12 : PySem.W.nsIn K mainGlobals "_end_of_run" = some (some (.ref f12))) (l12 : K.lookup f12 = some ⟨oc12, od12, .func (PySem.W.fnOf "_end_of_run" "_end_of_run" (defArgs s_end_of_run) (defBody s_end_of_run) (defScope s_end_of_run) .none kV12 dc12 pm12 an12 cd12 ct12), sl12⟩) (c12 : PySem.W.codeIn K cd12 "_end_of_run" = true) (k12 : PySem.W.keepIn K (.ref f12) = true)
    (a13 : PySem.W.nsIn K mainGlobals "_token_end" = some (some (.ref f13))) (l13 : K.lookup f13 = some ⟨oc13, od13, .func (PySem.W.fnOf "_token_end" "_token_end" (defArgs s_token_end) (defBody s_token_end) (defScope s_token_end) .none kV13 dc13 pm13 an13 cd13 ct13), sl13⟩) (c13 : PySem.W.codeIn K cd13 "_token_end" = true) (k13 : PySem.W.keepIn K (.ref f13) = true)
    (a14 : PySem.W.nsIn K mainGlobals "_is_number" = some (some (.ref f14))) (l14 : K.lookup f14 = some ⟨oc14, od14, .func (PySem.W.fnOf "_is_number" "_is_number" (defArgs s_is_number) (defBody s_is_number) (defScope s_is_number) .none kV14 dc14 pm14 an14 cd14 ct14), sl14⟩) (c14 : PySem.W.codeIn K cd14 "_is_number" = true) (k14 : PySem.W.keepIn K (.ref f14) = true)
    (a15 : PySem.W.nsIn K mainGlobals "_token" = some (some (.ref f15))) (l15 : K.lookup f15 = some ⟨oc15, od15, .func (PySem.W.fnOf "_token" "_token" (defArgs s_token) (defBody s_token) (defScope s_token) .none kV15 dc15 pm15 an15 cd15 ct15), sl15⟩) (c15 : PySem.W.codeIn K cd15 "_token" = true) (k15 : PySem.W.keepIn K (.ref f15) = true)
    (a16 : PySem.W.nsIn K mainGlobals "_tokens_of" = some (some (.ref f16))) (l16 : K.lookup f16 = some ⟨oc16, od16, .func (PySem.W.fnOf "_tokens_of" "_tokens_of" (defArgs s_tokens_of) (defBody s_tokens_of) (defScope s_tokens_of) .none kV16 dc16 pm16 an16 cd16 ct16), sl16⟩) (c16 : PySem.W.codeIn K cd16 "_tokens_of" = true) (k16 : PySem.W.keepIn K (.ref f16) = true)
    (a17 : PySem.W.nsIn K mainGlobals "write_term" = some (some (.ref f17))) (l17 : K.lookup f17 = some ⟨oc17, od17, .func (PySem.W.fnOf "write_term" "write_term" (defArgs s_write_term) (defBody s_write_term) (defScope s_write_term) .none kV17 dc17 pm17 an17 cd17 ct17), sl17⟩) (c17 : PySem.W.codeIn K cd17 "write_term" = true) (k17 : PySem.W.keepIn K (.ref f17) = true)
    (a18 : PySem.W.nsIn K mainGlobals "_pieces" = some (some (.ref f18))) (l18 : K.lookup f18 = some ⟨oc18, od18, .func (PySem.W.fnOf "_pieces" "_pieces" (defArgs s_pieces) (defBody s_pieces) (defScope s_pieces) .none kV18 dc18 pm18 an18 cd18 ct18), sl18⟩) (c18 : PySem.W.codeIn K cd18 "_pieces" = true) (k18 : PySem.W.keepIn K (.ref f18) = true)
    (a19 : PySem.W.nsIn K mainGlobals "_pieces_of_map" = some (some (.ref f19))) (l19 : K.lookup f19 = some ⟨oc19, od19, .func (PySem.W.fnOf "_pieces_of_map" "_pieces_of_map" (defArgs s_pieces_of_map) (defBody s_pieces_of_map) (defScope s_pieces_of_map) .none kV19 dc19 pm19 an19 cd19 ct19), sl19⟩) (c19 : PySem.W.codeIn K cd19 "_pieces_of_map" = true) (k19 : PySem.W.keepIn K (.ref f19) = true)
    (a20 : PySem.W.nsIn K mainGlobals "_decimal" = some (some (.ref f20))) (l20 : K.lookup f20 = some ⟨oc20, od20, .func (PySem.W.fnOf "_decimal" "_decimal" (defArgs s_decimal) (defBody s_decimal) (defScope s_decimal) .none kV20 dc20 pm20 an20 cd20 ct20), sl20⟩) (c20 : PySem.W.codeIn K cd20 "_decimal" = true) (k20 : PySem.W.keepIn K (.ref f20) = true)
    (a21 : PySem.W.nsIn K mainGlobals "_law_pool" = some (some (.ref f21))) (l21 : K.lookup f21 = some ⟨oc21, od21, .func (PySem.W.fnOf "_law_pool" "_law_pool" (defArgs s_law_pool) (defBody s_law_pool) (defScope s_law_pool) .none kV21 dc21 pm21 an21 cd21 ct21), sl21⟩) (c21 : PySem.W.codeIn K cd21 "_law_pool" = true) (k21 : PySem.W.keepIn K (.ref f21) = true)
    (a22 : PySem.W.nsIn K mainGlobals "_law_take" = some (some (.ref f22))) (l22 : K.lookup f22 = some ⟨oc22, od22, .func (PySem.W.fnOf "_law_take" "_law_take" (defArgs s_law_take) (defBody s_law_take) (defScope s_law_take) .none kV22 dc22 pm22 an22 cd22 ct22), sl22⟩) (c22 : PySem.W.codeIn K cd22 "_law_take" = true) (k22 : PySem.W.keepIn K (.ref f22) = true)
    (a23 : PySem.W.nsIn K mainGlobals "_law_word" = some (some (.ref f23))) (l23 : K.lookup f23 = some ⟨oc23, od23, .func (PySem.W.fnOf "_law_word" "_law_word" (defArgs s_law_word) (defBody s_law_word) (defScope s_law_word) .none kV23 dc23 pm23 an23 cd23 ct23), sl23⟩) (c23 : PySem.W.codeIn K cd23 "_law_word" = true) (k23 : PySem.W.keepIn K (.ref f23) = true)
    (a24 : PySem.W.nsIn K mainGlobals "_law_signature" = some (some (.ref f24))) (l24 : K.lookup f24 = some ⟨oc24, od24, .func (PySem.W.fnOf "_law_signature" "_law_signature" (defArgs s_law_signature) (defBody s_law_signature) (defScope s_law_signature) .none kV24 dc24 pm24 an24 cd24 ct24), sl24⟩) (c24 : PySem.W.codeIn K cd24 "_law_signature" = true) (k24 : PySem.W.keepIn K (.ref f24) = true)
    (a25 : PySem.W.nsIn K mainGlobals "_law_integer" = some (some (.ref f25))) (l25 : K.lookup f25 = some ⟨oc25, od25, .func (PySem.W.fnOf "_law_integer" "_law_integer" (defArgs s_law_integer) (defBody s_law_integer) (defScope s_law_integer) .none kV25 dc25 pm25 an25 cd25 ct25), sl25⟩) (c25 : PySem.W.codeIn K cd25 "_law_integer" = true) (k25 : PySem.W.keepIn K (.ref f25) = true)
    (a26 : PySem.W.nsIn K mainGlobals "_law_leaf" = some (some (.ref f26))) (l26 : K.lookup f26 = some ⟨oc26, od26, .func (PySem.W.fnOf "_law_leaf" "_law_leaf" (defArgs s_law_leaf) (defBody s_law_leaf) (defScope s_law_leaf) .none kV26 dc26 pm26 an26 cd26 ct26), sl26⟩) (c26 : PySem.W.codeIn K cd26 "_law_leaf" = true) (k26 : PySem.W.keepIn K (.ref f26) = true)
    (a27 : PySem.W.nsIn K mainGlobals "_law_high" = some (some (.ref f27))) (l27 : K.lookup f27 = some ⟨oc27, od27, .func (PySem.W.fnOf "_law_high" "_law_high" (defArgs s_law_high) (defBody s_law_high) (defScope s_law_high) .none kV27 dc27 pm27 an27 cd27 ct27), sl27⟩) (c27 : PySem.W.codeIn K cd27 "_law_high" = true) (k27 : PySem.W.keepIn K (.ref f27) = true)
    (a28 : PySem.W.nsIn K mainGlobals "_law_grown" = some (some (.ref f28))) (l28 : K.lookup f28 = some ⟨oc28, od28, .func (PySem.W.fnOf "_law_grown" "_law_grown" (defArgs s_law_grown) (defBody s_law_grown) (defScope s_law_grown) .none kV28 dc28 pm28 an28 cd28 ct28), sl28⟩) (c28 : PySem.W.codeIn K cd28 "_law_grown" = true) (k28 : PySem.W.keepIn K (.ref f28) = true)
    (a29 : PySem.W.nsIn K mainGlobals "_law_term" = some (some (.ref f29))) (l29 : K.lookup f29 = some ⟨oc29, od29, .func (PySem.W.fnOf "_law_term" "_law_term" (defArgs s_law_term) (defBody s_law_term) (defScope s_law_term) .none kV29 dc29 pm29 an29 cd29 ct29), sl29⟩) (c29 : PySem.W.codeIn K cd29 "_law_term" = true) (k29 : PySem.W.keepIn K (.ref f29) = true)
    (a30 : PySem.W.nsIn K mainGlobals "_law_text" = some (some (.ref f30))) (l30 : K.lookup f30 = some ⟨oc30, od30, .func (PySem.W.fnOf "_law_text" "_law_text" (defArgs s_law_text) (defBody s_law_text) (defScope s_law_text) .none kV30 dc30 pm30 an30 cd30 ct30), sl30⟩) (c30 : PySem.W.codeIn K cd30 "_law_text" = true) (k30 : PySem.W.keepIn K (.ref f30) = true)
    (a31 : PySem.W.nsIn K mainGlobals "_law_is_integer" = some (some (.ref f31))) (l31 : K.lookup f31 = some ⟨oc31, od31, .func (PySem.W.fnOf "_law_is_integer" "_law_is_integer" (defArgs s_law_is_integer) (defBody s_law_is_integer) (defScope s_law_is_integer) .none kV31 dc31 pm31 an31 cd31 ct31), sl31⟩) (c31 : PySem.W.codeIn K cd31 "_law_is_integer" = true) (k31 : PySem.W.keepIn K (.ref f31) = true)
    (a32 : PySem.W.nsIn K mainGlobals "_law_same" = some (some (.ref f32))) (l32 : K.lookup f32 = some ⟨oc32, od32, .func (PySem.W.fnOf "_law_same" "_law_same" (defArgs s_law_same) (defBody s_law_same) (defScope s_law_same) .none kV32 dc32 pm32 an32 cd32 ct32), sl32⟩) (c32 : PySem.W.codeIn K cd32 "_law_same" = true) (k32 : PySem.W.keepIn K (.ref f32) = true)
    (a33 : PySem.W.nsIn K mainGlobals "_law_direct" = some (some (.ref f33))) (l33 : K.lookup f33 = some ⟨oc33, od33, .func (PySem.W.fnOf "_law_direct" "_law_direct" (defArgs s_law_direct) (defBody s_law_direct) (defScope s_law_direct) .none kV33 dc33 pm33 an33 cd33 ct33), sl33⟩) (c33 : PySem.W.codeIn K cd33 "_law_direct" = true) (k33 : PySem.W.keepIn K (.ref f33) = true)
    (a34 : PySem.W.nsIn K mainGlobals "_law_all" = some (some (.ref f34))) (l34 : K.lookup f34 = some ⟨oc34, od34, .func (PySem.W.fnOf "_law_all" "_law_all" (defArgs s_law_all) (defBody s_law_all) (defScope s_law_all) .none kV34 dc34 pm34 an34 cd34 ct34), sl34⟩) (c34 : PySem.W.codeIn K cd34 "_law_all" = true) (k34 : PySem.W.keepIn K (.ref f34) = true)
    (a35 : PySem.W.nsIn K mainGlobals "_law_deep" = some (some (.ref f35))) (l35 : K.lookup f35 = some ⟨oc35, od35, .func (PySem.W.fnOf "_law_deep" "_law_deep" (defArgs s_law_deep) (defBody s_law_deep) (defScope s_law_deep) .none kV35 dc35 pm35 an35 cd35 ct35), sl35⟩) (c35 : PySem.W.codeIn K cd35 "_law_deep" = true) (k35 : PySem.W.keepIn K (.ref f35) = true)
    (a36 : PySem.W.nsIn K mainGlobals "_law_formed" = some (some (.ref f36))) (l36 : K.lookup f36 = some ⟨oc36, od36, .func (PySem.W.fnOf "_law_formed" "_law_formed" (defArgs s_law_formed) (defBody s_law_formed) (defScope s_law_formed) .none kV36 dc36 pm36 an36 cd36 ct36), sl36⟩) (c36 : PySem.W.codeIn K cd36 "_law_formed" = true) (k36 : PySem.W.keepIn K (.ref f36) = true)
    (a37 : PySem.W.nsIn K mainGlobals "_law_put" = some (some (.ref f37))) (l37 : K.lookup f37 = some ⟨oc37, od37, .func (PySem.W.fnOf "_law_put" "_law_put" (defArgs s_law_put) (defBody s_law_put) (defScope s_law_put) .none kV37 dc37 pm37 an37 cd37 ct37), sl37⟩) (c37 : PySem.W.codeIn K cd37 "_law_put" = true) (k37 : PySem.W.keepIn K (.ref f37) = true)
    (a38 : PySem.W.nsIn K mainGlobals "_law_told" = some (some (.ref f38))) (l38 : K.lookup f38 = some ⟨oc38, od38, .func (PySem.W.fnOf "_law_told" "_law_told" (defArgs s_law_told) (defBody s_law_told) (defScope s_law_told) .none kV38 dc38 pm38 an38 cd38 ct38), sl38⟩) (c38 : PySem.W.codeIn K cd38 "_law_told" = true) (k38 : PySem.W.keepIn K (.ref f38) = true)
    (a39 : PySem.W.nsIn K mainGlobals "law" = some (some (.ref f39))) (l39 : K.lookup f39 = some ⟨oc39, od39, .func (PySem.W.fnOf "law" "law" (defArgs s_law) (defBody s_law) (defScope s_law) .none kV39 dc39 pm39 an39 cd39 ct39), sl39⟩) (c39 : PySem.W.codeIn K cd39 "law" = true) (k39 : PySem.W.keepIn K (.ref f39) = true)
    (z_len : PySem.W.nsIn K mainGlobals "len" = some none) (z_int : PySem.W.nsIn K mainGlobals "int" = some none) (z_range : PySem.W.nsIn K mainGlobals "range" = some none) (z_min : PySem.W.nsIn K mainGlobals "min" = some none) (z_str : PySem.W.nsIn K mainGlobals "str" = some none) (z_tuple : PySem.W.nsIn K mainGlobals "tuple" = some none) (z_sorted : PySem.W.nsIn K mainGlobals "sorted" = some none) (z_isinstance : PySem.W.nsIn K mainGlobals "isinstance" = some none) (z_any : PySem.W.nsIn K mainGlobals "any" = some none) (z_all : PySem.W.nsIn K mainGlobals "all" = some none) (z_list : PySem.W.nsIn K mainGlobals "list" = some none) (z_bool : PySem.W.nsIn K mainGlobals "bool" = some none) (z_max : PySem.W.nsIn K mainGlobals "max" = some none) (z_set : PySem.W.nsIn K mainGlobals "set" = some none) (z_dict : PySem.W.nsIn K mainGlobals "dict" = some none) (z_ValueError : PySem.W.nsIn K mainGlobals "ValueError" = some none) (z_repr : PySem.W.nsIn K mainGlobals "repr" = some none) (z_zip : PySem.W.nsIn K mainGlobals "zip" = some none) (z_reversed : PySem.W.nsIn K mainGlobals "reversed" = some none) (z_sum : PySem.W.nsIn K mainGlobals "sum" = some none) (z_enumerate : PySem.W.nsIn K mainGlobals "enumerate" = some none)
    {ti0 : Tok} (gi0 : PySem.W.nsIn K mainGlobals "MOST_CHARACTERS" = some (some (.int 12 ti0)))
    {ti1 : Tok} (gi1 : PySem.W.nsIn K mainGlobals "MOST_TEXT" = some (some (.int 4000 ti1)))
    {ti2 : Tok} (gi2 : PySem.W.nsIn K mainGlobals "MOST_OPEN" = some (some (.int 60 ti2)))
    {ti3 : Tok} (gi3 : PySem.W.nsIn K mainGlobals "MOST_INTEGER" = some (some (.int 15 ti3)))
    {ti4 : Tok} (gi4 : PySem.W.nsIn K mainGlobals "MOST_ADDRESS" = some (some (.int 9 ti4)))
    {tz0 : Tok} (gz0 : PySem.W.nsIn K mainGlobals "LETTERS" = some (some (.str LET tz0)))
    {tz1 : Tok} (gz1 : PySem.W.nsIn K mainGlobals "DIGITS" = some (some (.str "0123456789" tz1)))
    {tz2 : Tok} (gz2 : PySem.W.nsIn K mainGlobals "WORD_CHARACTERS" = some (some (.str OTH tz2)))
    {tz3 : Tok} (gz3 : PySem.W.nsIn K mainGlobals "_SEPARATORS" = some (some (.str " \n" tz3)))
    {aS : Addr} {odaS : Option Addr} {naS : Nat} {slaS : Array (Option Value)} {uaS0 uaS1 uaS2 uaS3 : Tok} (gtaS : PySem.W.nsIn K mainGlobals "_SIGNS" = some (some (.ref aS))) (ltaS : K.lookup aS = some ⟨.type "tuple", odaS, .seq #[.str "(" uaS0, .str ")" uaS1, .str "{" uaS2, .str "}" uaS3] naS, slaS⟩)
    {aF : Addr} {odaF : Option Addr} {naF : Nat} {slaF : Array (Option Value)} {uaF0 uaF1 uaF2 uaF3 : Tok} (gtaF : PySem.W.nsIn K mainGlobals "_FORMS" = some (some (.ref aF))) (ltaF : K.lookup aF = some ⟨.type "tuple", odaF, .seq #[.str "get" uaF0, .str "set" uaF1, .str "plus" uaF2, .str "minus" uaF3] naF, slaF⟩)
    {fM0 fM1 fM2 fM3 fM4 CR CL CP CT gT : Addr} {odM0 anM0 odM1 anM1 odM2 anM2 odM3 anM3 odM4 anM4 : Option Addr} {slM0 slM1 slM2 slM3 slM4 : Array (Option Value)} {ocM0 kVM0 dcM0 pmM0 cdM0 ctM0 ocM1 kVM1 dcM1 pmM1 cdM1 ctM1 ocM2 kVM2 dcM2 pmM2 cdM2 ctM2 ocM3 kVM3 dcM3 pmM3 cdM3 ctM3 ocM4 kVM4 dcM4 pmM4 cdM4 ctM4 : Value}
    {odI anI : Option Addr} {slI : Array (Option Value)} {ocI kVI dcI pmI cdI ctI : Value}
    {CB NB : Addr} {nmB qB : Str} {bsB : List Value} {snB : List Str} {subB : List Value} {abB : Bool} {colB : Option Bool} {ddB : Option Addr} {m0B m1B m2B m3B m5B : Option Value}
    {CD ND : Addr} {nmD qD : Str} {bsD : List Value} {snD : List Str} {subD : List Value} {abD : Bool} {colD : Option Bool} {ddD : Option Addr} {m0D m1D m2D m3D m5D : Option Value}
    (gP : PySem.W.nsIn K mainGlobals "PassError" = some (some (.ref CP)))
    (aCL : PySem.W.nsIn K mainGlobals "TooLong" = some (some (.ref CL)))
    (gE : PySem.W.nsIn K mainGlobals "TextError" = some (some (.ref CT)))
    (nB : PySem.W.nsIn K mainGlobals "BadTerm" = some (some (.ref CB)))
    (xB : K.lookup CB = some (excClassObj nmB qB CB NB bsB [.ref CT, .ref CP, .type "ValueError", .type "Exception", .type "BaseException", .type "object"] true snB subB abB colB ddB m0B m1B m2B m3B m5B "ValueError.__new__"))
    (saB : PySem.W.findIn K (.ref CB) "__setattr__" = some (some (.builtin "object.__setattr__")))
    (npB : PySem.W.findIn K (.ref CB) "position" = some none)
    (aiB : PySem.W.findIn K (.ref CB) "__init__" = some (some (.ref gT)))
    (kepB : PySem.W.keepIn K (.ref CB) = true)
    (eCB : PySem.W.subIn K (.ref CB) (.type "BaseException") = some true)
    (tCB : PySem.W.typeIn K (.ref CB) = some (.type "type"))
    (nD : PySem.W.nsIn K mainGlobals "TooDeep" = some (some (.ref CD)))
    (xD : K.lookup CD = some (excClassObj nmD qD CD ND bsD [.ref CT, .ref CP, .type "ValueError", .type "Exception", .type "BaseException", .type "object"] true snD subD abD colD ddD m0D m1D m2D m3D m5D "ValueError.__new__"))
    (saD : PySem.W.findIn K (.ref CD) "__setattr__" = some (some (.builtin "object.__setattr__")))
    (npD : PySem.W.findIn K (.ref CD) "position" = some none)
    (aiD : PySem.W.findIn K (.ref CD) "__init__" = some (some (.ref gT)))
    (kepD : PySem.W.keepIn K (.ref CD) = true)
    (eCD : PySem.W.subIn K (.ref CD) (.type "BaseException") = some true)
    (tCD : PySem.W.typeIn K (.ref CD) = some (.type "type"))
    (nR : PySem.W.nsIn K mainGlobals "Reader" = some (some (.ref CR)))
    (aM0 : PySem.W.findIn K (.ref CR) "__init__" = some (some (.ref fM0)))
    (iM0 : PySem.W.isFn K (.ref fM0) = true)
    (lM0 : K.lookup fM0 = some ⟨ocM0, odM0, .func (PySem.W.fnOf "__init__" "Reader.__init__" (defArgs s_Reader___init__) (defBody s_Reader___init__) (defScope s_Reader___init__) .none kVM0 dcM0 pmM0 anM0 cdM0 ctM0), slM0⟩)
    (cM0 : PySem.W.codeIn K cdM0 "Reader.__init__" = true)
    (kM0 : PySem.W.keepIn K (.ref fM0) = true)
    (aM1 : PySem.W.findIn K (.ref CR) "take" = some (some (.ref fM1)))
    (iM1 : PySem.W.isFn K (.ref fM1) = true)
    (lM1 : K.lookup fM1 = some ⟨ocM1, odM1, .func (PySem.W.fnOf "take" "Reader.take" (defArgs s_Reader_take) (defBody s_Reader_take) (defScope s_Reader_take) .none kVM1 dcM1 pmM1 anM1 cdM1 ctM1), slM1⟩)
    (cM1 : PySem.W.codeIn K cdM1 "Reader.take" = true)
    (kM1 : PySem.W.keepIn K (.ref fM1) = true)
    (aM2 : PySem.W.findIn K (.ref CR) "term" = some (some (.ref fM2)))
    (iM2 : PySem.W.isFn K (.ref fM2) = true)
    (lM2 : K.lookup fM2 = some ⟨ocM2, odM2, .func (PySem.W.fnOf "term" "Reader.term" (defArgs s_Reader_term) (defBody s_Reader_term) (defScope s_Reader_term) .none kVM2 dcM2 pmM2 anM2 cdM2 ctM2), slM2⟩)
    (cM2 : PySem.W.codeIn K cdM2 "Reader.term" = true)
    (kM2 : PySem.W.keepIn K (.ref fM2) = true)
    (aM3 : PySem.W.findIn K (.ref CR) "node" = some (some (.ref fM3)))
    (iM3 : PySem.W.isFn K (.ref fM3) = true)
    (lM3 : K.lookup fM3 = some ⟨ocM3, odM3, .func (PySem.W.fnOf "node" "Reader.node" (defArgs s_Reader_node) (defBody s_Reader_node) (defScope s_Reader_node) .none kVM3 dcM3 pmM3 anM3 cdM3 ctM3), slM3⟩)
    (cM3 : PySem.W.codeIn K cdM3 "Reader.node" = true)
    (kM3 : PySem.W.keepIn K (.ref fM3) = true)
    (aM4 : PySem.W.findIn K (.ref CR) "mapping" = some (some (.ref fM4)))
    (iM4 : PySem.W.isFn K (.ref fM4) = true)
    (lM4 : K.lookup fM4 = some ⟨ocM4, odM4, .func (PySem.W.fnOf "mapping" "Reader.mapping" (defArgs s_Reader_mapping) (defBody s_Reader_mapping) (defScope s_Reader_mapping) .none kVM4 dcM4 pmM4 anM4 cdM4 ctM4), slM4⟩)
    (cM4 : PySem.W.codeIn K cdM4 "Reader.mapping" = true)
    (kM4 : PySem.W.keepIn K (.ref fM4) = true)
    (pgR : PySem.W.plainGet K CR Str.empty = true)
    (hdR : PySem.W.hasDictIn K CR = true)
    (poR : PySem.W.plainOver K CR = true)
    (saR : PySem.W.findIn K (.ref CR) "__setattr__" = some (some (.builtin "object.__setattr__")))
    (mkR : PySem.W.makesIn K CR = true)
    (kcR : PySem.W.keepIn K (.ref CR) = true)
    (nSR : PySem.W.findIn K (.ref CR) "signature" = some none)
    (nTR : PySem.W.findIn K (.ref CR) "tokens" = some none)
    (nAR : PySem.W.findIn K (.ref CR) "at" = some none)
    (xL : PySem.W.excIn K CL [.type "ValueError", .type "Exception", .type "BaseException", .type "object"] "ValueError.__new__" = true)
    (kL : PySem.W.keepIn K (.ref CL) = true)
    (bL : PySem.W.subIn K (.ref CL) (.type "BaseException") = some true)
    (tL : PySem.W.typeIn K (.ref CL) = some (.type "type"))
    (iL : PySem.W.isClsIn K CL = true)
    (sL : PySem.W.subIn K (.ref CL) (.ref CL) = some true)
    (iP : PySem.W.isClsIn K CP = true)
    (tP : PySem.W.typeIn K (.ref CP) = some (.type "type"))
    (sLP : PySem.W.subIn K (.ref CL) (.ref CP) = some true)
    (sLV : PySem.W.subIn K (.ref CL) (.type "ValueError") = some true)
    (gaL : PySem.W.findIn K (.ref CL) "__getattribute__" = some (some (.builtin "BaseException.__getattribute__")))
    (ggL : PySem.W.findIn K (.ref CL) "__getattr__" = some none)
    (hCL : PySem.W.hasDictIn K CL = true)
    (ccL : PySem.W.findIn K (.ref CL) "__class__" = some (some (.builtin "object.__class__")))
    (sp1 : PySem.W.specialIn K (.builtin "object.__class__") "__get__" = some (some (.builtin "getset_descriptor.__get__")))
    (sp2 : PySem.W.takesIn K (.builtin "object.__class__") = some true)
    (moL : PySem.W.mroIn K CL (.type "object") = some true)
    (tiT : PySem.W.typeIn K (.ref gT) = some (.type "function"))
    (liT : K.lookup gT = some ⟨ocI, odI, .func (PySem.W.fnOf "__init__" "TextError.__init__" (defArgs s_initP) (defBody s_initP) (defScope s_initP) .none kVI dcI pmI anI cdI ctI), slI⟩)
    (ciT : PySem.W.codeIn K cdI "TextError.__init__" = true)
    (kiT : PySem.W.keepIn K (.ref gT) = true) :
    ∃ fd : FuncData, (∀ (s : Shared) (v : Value), BindsTo s fd ⟨[v], []⟩ [("script", v)]) ∧ ∀ base : Heap, K.In base → base.Ns mainGlobals mg → FnOk l.prog w K mg base CX0 202 fa fd ["script"] (spLaw K) := by
  have e := hfa.symm.trans (PySem.W.mg_of X G a39)
  cases e
  have F1 := fun_mk (st := s_is_word) l1 c1 k1
  have b1 := F1.binds (ps := ["text"]) fun _ _ _ _ _ _ us hl => match us, hl with | [_], _ => rfl
  have m1 := PySem.W.mg_of X G a1
  have F2 := fun_mk (st := s_children) l2 c2 k2
  have b2 := F2.binds (ps := ["term"]) fun _ _ _ _ _ _ us hl => match us, hl with | [_], _ => rfl
  have m2 := PySem.W.mg_of X G a2
  have F3 := fun_mk (st := s_rebuild) l3 c3 k3
  have b3 := F3.binds (ps := ["term", "parts"]) fun _ _ _ _ _ _ us hl => match us, hl with | [_, _], _ => rfl
  have m3 := PySem.W.mg_of X G a3
  have F4 := fun_mk (st := s_parts_of) l4 c4 k4
  have b4 := F4.binds (ps := ["term"]) fun _ _ _ _ _ _ us hl => match us, hl with | [_], _ => rfl
  have m4 := PySem.W.mg_of X G a4
  have F5 := fun_mk (st := s_size) l5 c5 k5
  have b5 := F5.binds (ps := ["term"]) fun _ _ _ _ _ _ us hl => match us, hl with | [_], _ => rfl
  have m5 := PySem.W.mg_of X G a5
  have F6 := fun_mk (st := s_height) l6 c6 k6
  have b6 := F6.binds (ps := ["term"]) fun _ _ _ _ _ _ us hl => match us, hl with | [_], _ => rfl
  have m6 := PySem.W.mg_of X G a6
  have F7 := fun_mk (st := s_all_words) l7 c7 k7
  have b7 := F7.binds (ps := ["term"]) fun _ _ _ _ _ _ us hl => match us, hl with | [_], _ => rfl
  have m7 := PySem.W.mg_of X G a7
  have F8 := fun_mk (st := s_metavariables) l8 c8 k8
  have b8 := F8.binds (ps := ["term"]) fun _ _ _ _ _ _ us hl => match us, hl with | [_], _ => rfl
  have m8 := PySem.W.mg_of X G a8
  have F9 := fun_mk (st := s_is_ground) l9 c9 k9
  have b9 := F9.binds (ps := ["term"]) fun _ _ _ _ _ _ us hl => match us, hl with | [_], _ => rfl
  have m9 := PySem.W.mg_of X G a9
  have F10 := fun_mk (st := s_is_pattern) l10 c10 k10
  have b10 := F10.binds (ps := ["term"]) fun _ _ _ _ _ _ us hl => match us, hl with | [_], _ => rfl
  have m10 := PySem.W.mg_of X G a10
  have F11 := fun_mk (st := s_read_term) l11 c11 k11
  have b11 := F11.binds (ps := ["signature", "text"]) fun _ _ _ _ _ _ us hl => match us, hl with | [_, _], _ => rfl
  have m11 := PySem.W.mg_of X G a11
  have F12 := fun_mk (st := s_end_of_run) l12 c12 k12
  have b12 := F12.binds (ps := ["text", "start", "characters"]) fun _ _ _ _ _ _ us hl => match us, hl with | [_, _, _], _ => rfl
  have m12 := PySem.W.mg_of X G a12
  have F13 := fun_mk (st := s_token_end) l13 c13 k13
  have b13 := F13.binds (ps := ["text", "start"]) fun _ _ _ _ _ _ us hl => match us, hl with | [_, _], _ => rfl
  have m13 := PySem.W.mg_of X G a13
  have F14 := fun_mk (st := s_is_number) l14 c14 k14
  have b14 := F14.binds (ps := ["digits", "most"]) fun _ _ _ _ _ _ us hl => match us, hl with | [_, _], _ => rfl
  have m14 := PySem.W.mg_of X G a14
  have F15 := fun_mk (st := s_token) l15 c15 k15
  have b15 := F15.binds (ps := ["piece", "position"]) fun _ _ _ _ _ _ us hl => match us, hl with | [_, _], _ => rfl
  have m15 := PySem.W.mg_of X G a15
  have F16 := fun_mk (st := s_tokens_of) l16 c16 k16
  have b16 := F16.binds (ps := ["text"]) fun _ _ _ _ _ _ us hl => match us, hl with | [_], _ => rfl
  have m16 := PySem.W.mg_of X G a16
  have F17 := fun_mk (st := s_write_term) l17 c17 k17
  have b17 := F17.binds (ps := ["term"]) fun _ _ _ _ _ _ us hl => match us, hl with | [_], _ => rfl
  have m17 := PySem.W.mg_of X G a17
  have F18 := fun_mk (st := s_pieces) l18 c18 k18
  have b18 := F18.binds (ps := ["term"]) fun _ _ _ _ _ _ us hl => match us, hl with | [_], _ => rfl
  have m18 := PySem.W.mg_of X G a18
  have F19 := fun_mk (st := s_pieces_of_map) l19 c19 k19
  have b19 := F19.binds (ps := ["term"]) fun _ _ _ _ _ _ us hl => match us, hl with | [_], _ => rfl
  have m19 := PySem.W.mg_of X G a19
  have F20 := fun_mk (st := s_decimal) l20 c20 k20
  have b20 := F20.binds (ps := ["number"]) fun _ _ _ _ _ _ us hl => match us, hl with | [_], _ => rfl
  have m20 := PySem.W.mg_of X G a20
  have F21 := fun_mk (st := s_law_pool) l21 c21 k21
  have b21 := F21.binds (ps := ["script"]) fun _ _ _ _ _ _ us hl => match us, hl with | [_], _ => rfl
  have m21 := PySem.W.mg_of X G a21
  have F22 := fun_mk (st := s_law_take) l22 c22 k22
  have b22 := F22.binds (ps := ["pool", "many"]) fun _ _ _ _ _ _ us hl => match us, hl with | [_, _], _ => rfl
  have m22 := PySem.W.mg_of X G a22
  have F23 := fun_mk (st := s_law_word) l23 c23 k23
  have b23 := F23.binds (ps := ["pool", "k", "shift"]) fun _ _ _ _ _ _ us hl => match us, hl with | [_, _, _], _ => rfl
  have m23 := PySem.W.mg_of X G a23
  have F24 := fun_mk (st := s_law_signature) l24 c24 k24
  have b24 := F24.binds (ps := ["pool", "shift"]) fun _ _ _ _ _ _ us hl => match us, hl with | [_, _], _ => rfl
  have m24 := PySem.W.mg_of X G a24
  have F25 := fun_mk (st := s_law_integer) l25 c25 k25
  have b25 := F25.binds (ps := ["pool"]) fun _ _ _ _ _ _ us hl => match us, hl with | [_], _ => rfl
  have m25 := PySem.W.mg_of X G a25
  have F26 := fun_mk (st := s_law_leaf) l26 c26 k26
  have b26 := F26.binds (ps := ["pool", "words", "metas"]) fun _ _ _ _ _ _ us hl => match us, hl with | [_, _, _], _ => rfl
  have m26 := PySem.W.mg_of X G a26
  have F27 := fun_mk (st := s_law_high) l27 c27 k27
  have b27 := F27.binds (ps := ["parts"]) fun _ _ _ _ _ _ us hl => match us, hl with | [_], _ => rfl
  have m27 := PySem.W.mg_of X G a27
  have F28 := fun_mk (st := s_law_grown) l28 c28 k28
  have b28 := F28.binds (ps := ["pool", "stack", "signature", "words", "metas"]) fun _ _ _ _ _ _ us hl => match us, hl with | [_, _, _, _, _], _ => rfl
  have m28 := PySem.W.mg_of X G a28
  have F29 := fun_mk (st := s_law_term) l29 c29 k29
  have b29 := F29.binds (ps := ["pool", "signature", "words", "metas", "most"]) fun _ _ _ _ _ _ us hl => match us, hl with | [_, _, _, _, _], _ => rfl
  have m29 := PySem.W.mg_of X G a29
  have F30 := fun_mk (st := s_law_text) l30 c30 k30
  have b30 := F30.binds (ps := ["term"]) fun _ _ _ _ _ _ us hl => match us, hl with | [_], _ => rfl
  have m30 := PySem.W.mg_of X G a30
  have F31 := fun_mk (st := s_law_is_integer) l31 c31 k31
  have b31 := F31.binds (ps := ["actual"]) fun _ _ _ _ _ _ us hl => match us, hl with | [_], _ => rfl
  have m31 := PySem.W.mg_of X G a31
  have F32 := fun_mk (st := s_law_same) l32 c32 k32
  have b32 := F32.binds (ps := ["actual", "due"]) fun _ _ _ _ _ _ us hl => match us, hl with | [_, _], _ => rfl
  have m32 := PySem.W.mg_of X G a32
  have F33 := fun_mk (st := s_law_direct) l33 c33 k33
  have b33 := F33.binds (ps := ["term"]) fun _ _ _ _ _ _ us hl => match us, hl with | [_], _ => rfl
  have m33 := PySem.W.mg_of X G a33
  have F34 := fun_mk (st := s_law_all) l34 c34 k34
  have b34 := F34.binds (ps := ["term"]) fun _ _ _ _ _ _ us hl => match us, hl with | [_], _ => rfl
  have m34 := PySem.W.mg_of X G a34
  have F35 := fun_mk (st := s_law_deep) l35 c35 k35
  have b35 := F35.binds (ps := ["term"]) fun _ _ _ _ _ _ us hl => match us, hl with | [_], _ => rfl
  have m35 := PySem.W.mg_of X G a35
  have F36 := fun_mk (st := s_law_formed) l36 c36 k36
  have b36 := F36.binds (ps := ["pool", "term", "words"]) fun _ _ _ _ _ _ us hl => match us, hl with | [_, _, _], _ => rfl
  have m36 := PySem.W.mg_of X G a36
  have F37 := fun_mk (st := s_law_put) l37 c37 k37
  have b37 := F37.binds (ps := ["term", "parts"]) fun _ _ _ _ _ _ us hl => match us, hl with | [_, _], _ => rfl
  have m37 := PySem.W.mg_of X G a37
  have F38 := fun_mk (st := s_law_told) l38 c38 k38
  have b38 := F38.binds (ps := ["term"]) fun _ _ _ _ _ _ us hl => match us, hl with | [_], _ => rfl
  have m38 := PySem.W.mg_of X G a38
  have F39 := fun_mk (st := s_law) l39 c39 k39
  have y_len := PySem.W.mg_none_of X G z_len
  have y_int := PySem.W.mg_none_of X G z_int
  have y_range := PySem.W.mg_none_of X G z_range
  have y_min := PySem.W.mg_none_of X G z_min
  have y_str := PySem.W.mg_none_of X G z_str
  have y_tuple := PySem.W.mg_none_of X G z_tuple
  have y_sorted := PySem.W.mg_none_of X G z_sorted
  have y_isinstance := PySem.W.mg_none_of X G z_isinstance
  have y_any := PySem.W.mg_none_of X G z_any
  have y_all := PySem.W.mg_none_of X G z_all
  have y_list := PySem.W.mg_none_of X G z_list
  have y_bool := PySem.W.mg_none_of X G z_bool
  have y_max := PySem.W.mg_none_of X G z_max
  have y_set := PySem.W.mg_none_of X G z_set
  have y_dict := PySem.W.mg_none_of X G z_dict
  have y_ValueError := PySem.W.mg_none_of X G z_ValueError
  have y_repr := PySem.W.mg_none_of X G z_repr
  have y_zip := PySem.W.mg_none_of X G z_zip
  have y_reversed := PySem.W.mg_none_of X G z_reversed
  have y_sum := PySem.W.mg_none_of X G z_sum
  have y_enumerate := PySem.W.mg_none_of X G z_enumerate
  have yi0 : ∃ t, mg _ = some (.int _ t) := ⟨_, PySem.W.mg_of X G gi0⟩
  have yi1 : ∃ t, mg _ = some (.int _ t) := ⟨_, PySem.W.mg_of X G gi1⟩
  have yi2 : ∃ t, mg _ = some (.int _ t) := ⟨_, PySem.W.mg_of X G gi2⟩
  have yi3 : ∃ t, mg _ = some (.int _ t) := ⟨_, PySem.W.mg_of X G gi3⟩
  have yi4 : ∃ t, mg _ = some (.int _ t) := ⟨_, PySem.W.mg_of X G gi4⟩
  have yz0 : ∃ t, mg _ = some (.str _ t) := ⟨_, PySem.W.mg_of X G gz0⟩
  have yz1 : ∃ t, mg _ = some (.str _ t) := ⟨_, PySem.W.mg_of X G gz1⟩
  have yz2 : ∃ t, mg _ = some (.str _ t) := ⟨_, PySem.W.mg_of X G gz2⟩
  have yz3 : ∃ t, mg _ = some (.str _ t) := ⟨_, PySem.W.mg_of X G gz3⟩
  have ytaS := PySem.W.mg_of X G gtaS
  have yqaS : ∀ H, SqT K H aS [V.str "(", V.str ")", V.str "{", V.str "}"] := fun H => .inr ⟨_, _, _, ltaS, rfl, rfl, small (by show 4 ≤ _; decide), .cons ⟨_, rfl⟩ (.cons ⟨_, rfl⟩ (.cons ⟨_, rfl⟩ (.cons ⟨_, rfl⟩ (.nil))))⟩
  have ytaF := PySem.W.mg_of X G gtaF
  have yqaF : ∀ H, SqT K H aF [V.str "get", V.str "set", V.str "plus", V.str "minus"] := fun H => .inr ⟨_, _, _, ltaF, rfl, rfl, small (by show 4 ≤ _; decide), .cons ⟨_, rfl⟩ (.cons ⟨_, rfl⟩ (.cons ⟨_, rfl⟩ (.cons ⟨_, rfl⟩ (.nil))))⟩
  refine ⟨PySem.W.fnOf "law" "law" (defArgs s_law) (defBody s_law) (defScope s_law) .none kV39 dc39 pm39 an39 cd39 ct39, fun s v => .of_eq rfl, fun base _ _ => ?_⟩
  have FM0 := fun_mk (st := s_Reader___init__) lM0 cM0 kM0
  have bM0 := FM0.binds (ps := ["self", "signature", "text"]) fun _ _ _ _ _ _ us hl => match us, hl with | [_, _, _], _ => rfl
  have FM1 := fun_mk (st := s_Reader_take) lM1 cM1 kM1
  have bM1 := FM1.binds (ps := ["self", "kind"]) fun _ _ _ _ _ _ us hl => match us, hl with | [_, _], _ => rfl
  have FM2 := fun_mk (st := s_Reader_term) lM2 cM2 kM2
  have bM2 := FM2.binds (ps := ["self", "depth"]) fun _ _ _ _ _ _ us hl => match us, hl with | [_, _], _ => rfl
  have FM3 := fun_mk (st := s_Reader_node) lM3 cM3 kM3
  have bM3 := FM3.binds (ps := ["self", "depth"]) fun _ _ _ _ _ _ us hl => match us, hl with | [_, _], _ => rfl
  have FM4 := fun_mk (st := s_Reader_mapping) lM4 cM4 kM4
  have bM4 := FM4.binds (ps := ["self", "depth"]) fun _ _ _ _ _ _ us hl => match us, hl with | [_, _], _ => rfl
  have FI := fun_mk (st := s_initP) liT ciT kiT
  have bI := FI.binds (ps := ["self", "position"]) fun _ _ _ _ _ _ us hl => match us, hl with | [_, _], _ => rfl
  have NBo : NoP K CB := ⟨⟨⟨nmB, qB, NB, bsB, _, snB, subB, abB, colB, ddB, m0B, m1B, m2B, m3B, m5B, xB, by show PySem.HandSPX.refsVE [.type "ValueError", .type "Exception", .type "BaseException", .type "object"] = true; decide +kernel⟩, saB, eCB, tCB, kepB⟩, npB⟩
  have NDo : NoP K CD := ⟨⟨⟨nmD, qD, ND, bsD, _, snD, subD, abD, colD, ddD, m0D, m1D, m2D, m3D, m5D, xD, by show PySem.HandSPX.refsVE [.type "ValueError", .type "Exception", .type "BaseException", .type "object"] = true; decide +kernel⟩, saD, eCD, tCD, kepD⟩, npD⟩
  have T : Txt K mg := ⟨y_len, y_int, y_range, y_min, y_str, y_tuple, y_sorted, y_isinstance, y_any, y_all, y_list, y_bool⟩
  have TK : TxtK K mg := ⟨T, y_max, y_set⟩
  have TZ : TxtZ K mg aF := ⟨⟨T, ytaF, yqaF⟩, y_zip, y_reversed, y_dict, y_sum⟩
  have TP : TxtP K mg aS := ⟨T, yi0, yz0, yz1, yz2, yz3, yi1, yi2, yi3, yi4, ytaS, yqaS⟩
  have TR : TxtR K mg aS CL CP := ⟨TP, PySem.W.mg_of X G aCL, xL, kL, bL, tL, exm_self bL iL tL sL, PySem.W.mg_of X G gP, ⟨gaL, ggL, bL, hCL, ccL, sp1, sp2, moL⟩, kit_t iP tP sLP, kit_v sLV, y_ValueError, y_repr, y_dict⟩
  have TW : TxtW K mg aS CL CP := ⟨TR, y_enumerate, y_max⟩
  have XR : RTx K CR := ⟨⟨pgR, hdR, poR, saR⟩, nSR, nTR, nAR⟩
  have take0 : C8.Cal l.prog w K mg base 0 "_law_take" (spTake 0) [] := cal_mk (none_ok (fun vs H Q E h => by obtain ⟨_, _, _, _, _, _, _, _, h, _⟩ := h; omega)) m22 k22 b22
  have take1 : C8.Cal l.prog w K mg base 1 "_law_take" (spTake 1) [] := cal_mk (ok_take F22 T take0) m22 k22 b22
  have take : C8.Cal l.prog w K mg base 2 "_law_take" (spTake 2) [] := cal_mk (ok_take F22 T take1) m22 k22 b22
  have pool : C8.Cal l.prog w K mg base 1 "_law_pool" (spPool K) [] := cal_mk (ok_pool F21) m21 k21 b21
  have isword : C8.Cal l.prog w K mg base 1 "is_word" (spWord) [] := cal_mk (ok_word F1 TP) m1 k1 b1
  have endr : C8.Cal l.prog w K mg base 1 "_end_of_run" (spEnd) [] := cal_mk (ok_end F12 TP) m12 k12 b12
  have tokend : C8.Cal l.prog w K mg base 2 "_token_end" (spTokEnd) [] := cal_mk (ok_tokEnd F13 TP endr) m13 k13 b13
  have isnum : C8.Cal l.prog w K mg base 2 "_is_number" (spIsNum) [] := cal_mk (ok_isNum F14 TP endr) m14 k14 b14
  have tok : C8.Cal l.prog w K mg base 3 "_token" (spTok K) [] := cal_mk (ok_tok F15 TP isword isnum) m15 k15 b15
  have tokens : C8.Cal l.prog w K mg base 4 "_tokens_of" (spToks K) [] := cal_mk (ok_toks F16 TP tokend tok) m16 k16 b16
  have XB : CalY l.prog w K mg base 1 "BadTerm" CB (spIP K) := ⟨NBo, PySem.W.mg_of X G nB, _, _, _, aiB, tiT, ok_initP FI, bI⟩
  have XD : CalY l.prog w K mg base 1 "TooDeep" CD (spIP K) := ⟨NDo, PySem.W.mg_of X G nD, _, _, _, aiD, tiT, ok_initP FI, bI⟩
  have rtake : CalM l.prog w K mg base 3 CR "take" (spRTake K CR CB) := ⟨XR.cl, _, _, _, ⟨aM1, iM1, kM1⟩, ok_rtake FM1 TP XR XB, bM1⟩
  have rterms : ∀ n : Nat, CalM l.prog w K mg base (2 * n + 4) CR "term" (rdTerm K CR CB CD n) := fun n => by
    induction n with
    | zero => exact ⟨XR.cl, _, _, _, ⟨aM2, iM2, kM2⟩, none_okX (fun vs H Q E h => by obtain ⟨_, _, _, _, _, _, _, _, _, _, _, h1, h2, _⟩ := h; omega), bM2⟩
    | succ n ih =>
      have nd : CalM l.prog w K mg base (2 * n + 5) CR "node" (spNode K CR CB CD n) := ⟨XR.cl, _, _, _, ⟨aM3, iM3, kM3⟩, ok_rnode FM3 TP XR XB XD rtake ih, bM3⟩
      have mp : CalM l.prog w K mg base (2 * n + 5) CR "mapping" (spMap K CR CB CD n) := ⟨XR.cl, _, _, _, ⟨aM4, iM4, kM4⟩, ok_rmap FM4 TP XR XB XD rtake ih, bM4⟩
      exact ⟨XR.cl, _, _, _, ⟨aM2, iM2, kM2⟩, ok_rterm FM2 TP XR XB rtake nd mp, bM2⟩
  have MR : CalC l.prog w K mg base 5 "Reader" CR (spRInit K CR) := ⟨PySem.W.mg_of X G nR, _, _, _, ⟨mkR, aM0, iM0, kcR⟩, ok_rinit FM0 XR tokens, bM0⟩
  have read : CalR l.prog w K mg base 128 "read_term" (spRead K CB CD CL) := ⟨_, _, _, ok_read F11 TR MR (rterms 61) rtake, m11, k11, b11⟩
  have kidsV : C8.Cal l.prog w K mg base 1 "children" (spKidsV K) [] := cal_mk (ok_kidsV F2 TZ.toTxtT) m2 k2 b2
  have kids : C8.Cal l.prog w K mg base 1 "children" (spKids K) [] := cal_mk (ok_kids F2 TZ.toTxtT) m2 k2 b2
  have reb : C8.Cal l.prog w K mg base 1 "rebuild" (spRebuild K) [] := cal_mk (ok_rebuild F3 TZ) m3 k3 b3
  have rebT : C8.Cal l.prog w K mg base 1 "rebuild" (spRebuildT K) [] := cal_mk (ok_rebuildT F3 TZ) m3 k3 b3
  have parts : GenF.CalG l.prog w K mg base 3 "parts_of" (spParts K) := ⟨_, _, _, ok_parts F4 kidsV, m4, k4, b4⟩
  have size : C8.Cal l.prog w K mg base 4 "size" (spSize K) [] := cal_mk (ok_size F5 TW parts) m5 k5 b5
  have height : C8.Cal l.prog w K mg base 2 "height" (spHeight K) [] := cal_mk (ok_height F6 TW kidsV) m6 k6 b6
  have allw : C8.Cal l.prog w K mg base 4 "_all_words" (spWords K) [] := cal_mk (ok_words F7 TW parts) m7 k7 b7
  have metas : C8.Cal l.prog w K mg base 5 "metavariables" (spMetas K) [] := cal_mk (ok_metas F8 TW allw) m8 k8 b8
  have ground : C8.Cal l.prog w K mg base 5 "is_ground" (spGround K) [] := cal_mk (ok_ground F9 TW allw) m9 k9 b9
  have pattern : C8.Cal l.prog w K mg base 6 "is_pattern" (spPattern K) [] := cal_mk (ok_pattern F10 TW allw metas parts) m10 k10 b10
  have dec0 : C8.Cal l.prog w K mg base 0 "_decimal" (spDec 0) [] := cal_mk (none_ok (fun vs H Q E h => by obtain ⟨_, _, _, _, h, _⟩ := h; omega)) m20 k20 b20
  have dec1 : C8.Cal l.prog w K mg base 1 "_decimal" (spDec 1) [] := cal_mk (ok_dec F20 TW dec0) m20 k20 b20
  have dec : C8.Cal l.prog w K mg base 2 "_decimal" (spDec 2) [] := cal_mk (ok_dec F20 TW dec1) m20 k20 b20
  have pcsm : C8.Cal l.prog w K mg base 1 "_pieces_of_map" (spPcsM K) [] := cal_mk (ok_pcsm F19 TW) m19 k19 b19
  have pcs : C8.Cal l.prog w K mg base 3 "_pieces" (spPcs K) [] := cal_mk (ok_pcs F18 TW dec kidsV pcsm) m18 k18 b18
  have wri : C8.Cal l.prog w K mg base 4 "write_term" (spWrite K) [] := cal_mk (ok_write F17 TW pcs) m17 k17 b17
  have word : C8.Cal l.prog w K mg base 3 "_law_word" (spLWord) [] := cal_mk (ok_lword F23 T take) m23 k23 b23
  have sig : C8.Cal l.prog w K mg base 4 "_law_signature" (spSig) [] := cal_mk (ok_sig F24 T take word) m24 k24 b24
  have intg : C8.Cal l.prog w K mg base 3 "_law_integer" (spIntg) [] := cal_mk (ok_intg F25 take) m25 k25 b25
  have leaf : C8.Cal l.prog w K mg base 4 "_law_leaf" (spLeaf K) [] := cal_mk (ok_leaf F26 T take intg) m26 k26 b26
  have high : C8.Cal l.prog w K mg base 1 "_law_high" (spHigh K) [] := cal_mk (ok_high F27 TK) m27 k27 b27
  have grown : C8.Cal l.prog w K mg base 5 "_law_grown" (spGrown K) [] := cal_mk (ok_grown F28 TK take leaf high) m28 k28 b28
  have term : C8.Cal l.prog w K mg base 6 "_law_term" (spTerm K) [] := cal_mk (ok_term F29 TK take grown) m29 k29 b29
  have txts : ∀ n : Nat, C8.Cal l.prog w K mg base (n) "_law_text" (spText K n) [] := fun n => by
    induction n with
    | zero => exact cal_mk (none_ok (fun vs H Q E h => by obtain ⟨_, t, _, _, _, _, _, _, h, _⟩ := h; have := t.ht_pos; omega)) m30 k30 b30
    | succ n ih => exact cal_mk (ok_ltext F30 TW ih) m30 k30 b30
  have isint : C8.Cal l.prog w K mg base 1 "_law_is_integer" (spInt) [] := cal_mk (ok_isint F31 T) m31 k31 b31
  have sames : ∀ n : Nat, C8.Cal l.prog w K mg base (n + 1) "_law_same" (spSame K n) [] := fun n => by
    induction n with
    | zero => exact cal_mk (none_ok (fun vs H Q E h => by obtain ⟨_, _, _, _, _, _, h, _⟩ := h; omega)) m32 k32 b32
    | succ n ih => exact cal_mk (ok_same F32 T isint ih) m32 k32 b32
  have direct : C8.Cal l.prog w K mg base 1 "_law_direct" (spKids K) [] := cal_mk (ok_direct F33 TW) m33 k33 b33
  have alls : ∀ n : Nat, C8.Cal l.prog w K mg base (n + 1) "_law_all" (spAll K n) [] := fun n => by
    induction n with
    | zero => exact cal_mk (none_ok (fun vs H Q E h => by obtain ⟨_, t, _, _, _, h, _⟩ := h; have := t.ht_pos; omega)) m34 k34 b34
    | succ n ih => exact cal_mk (ok_all F34 TW direct ih) m34 k34 b34
  have deeps : ∀ n : Nat, C8.Cal l.prog w K mg base (n + 1) "_law_deep" (spDeep K n) [] := fun n => by
    induction n with
    | zero => exact cal_mk (none_ok (fun vs H Q E h => by obtain ⟨_, t, _, _, _, h, _⟩ := h; have := t.ht_pos; omega)) m35 k35 b35
    | succ n ih => exact cal_mk (ok_deep F35 TW direct ih) m35 k35 b35
  have formed : C8.Cal l.prog w K mg base 4 "_law_formed" (spFormed K) [] := cal_mk (ok_formed F36 TW take intg) m36 k36 b36
  have put : C8.Cal l.prog w K mg base 1 "_law_put" (spPut K) [] := cal_mk (ok_put F37 TW) m37 k37 b37
  have told : C8.Cal l.prog w K mg base 201 "_law_told" (spTold K) [] := cal_mk (ok_told F38 TW (alls 57) (deeps 57) direct (sames 199) size height metas ground pattern kidsV parts) m38 k38 b38
  exact ok_law F39 TW pool take word sig term formed (txts 60) (sames 199) wri told read isword direct reb rebT put
theorem walk {l : PySem.W.OpenLaw} {q : Program} {loose : List Str} {XP : (Str → Option Value) → Heap → Prop} {YP : World → Heap → Prop} {d : DefRec} {K : Params → PySem.W.Frag} (hn : l.most = some 63) (hdf : d.params.defaults = [])
    (hY : ∀ (w : World) (h : Heap), YP w h → (K w.params).In h)
    (F : ∀ (w : World) (mg : Str → Option Value) (fa : Addr) (h : Heap), (K w.params).In h → h.Ns mainGlobals mg → mg d.name = some (.ref fa) →
      ∃ fd : FuncData, (∀ (s : Shared) (u : Value), BindsTo s fd ⟨[u], []⟩ [("script", u)]) ∧ ∀ base : Heap, (K w.params).In base → base.Ns mainGlobals mg → FnOk l.prog w (K w.params) mg base CX0 202 fa fd ["script"] (spLaw (K w.params))) :
    PySem.W.WalkO q loose XP YP l.row.toRowW d [] (fun f vs => PySem.call f vs) :=
  L2.walk_of (n := 63) (k := 202) (x := "script") (CX := fun _ => CX0) (sp := fun w => spLaw (K w.params)) hn (by decide) hdf ⟨rfl, by decide, by decide⟩ hY F (fun _ _ a ns hl _ hS => ⟨a, ns, rfl, hS, hl, fun _ => rfl⟩) fun _ _ _ _ _ z => z
end PK
open PySem PySem.W PyProof.Rows in
set_option maxRecDepth 100000 in
set_option maxHeartbeats 0 in
theorem PySem.Challenge.cw_passproven_k03_written_terms_holds : PySem.Challenge.rw_passproven_k03_written_terms.Holds := by
  w_on; o_law; k_head; (case hw => w_witness2)
  k_fill
  refine PK.walk (l := PySem.Challenge.rw_passproven_k03_written_terms) rfl rfl (fun w h Y => PySem.W.kIn_of Y) ?F
  case F =>
    intro w mg fa h KX G hmg
    refine' PK.all_mk KX G hmg ?a1 ?l1 ?c1 ?k1 ?a2 ?l2 ?c2 ?k2 ?a3 ?l3 ?c3 ?k3 ?a4 ?l4 ?c4 ?k4 ?a5 ?l5 ?c5 ?k5 ?a6 ?l6 ?c6 ?k6 ?a7 ?l7 ?c7 ?k7 ?a8 ?l8 ?c8 ?k8 ?a9 ?l9 ?c9 ?k9 ?a10 ?l10 ?c10 ?k10 ?a11 ?l11 ?c11 ?k11 ?a12 ?l12 ?c12 ?k12 ?a13 ?l13 ?c13 ?k13 ?a14 ?l14 ?c14 ?k14 ?a15 ?l15 ?c15 ?k15 ?a16 ?l16 ?c16 ?k16 ?a17 ?l17 ?c17 ?k17 ?a18 ?l18 ?c18 ?k18 ?a19 ?l19 ?c19 ?k19 ?a20 ?l20 ?c20 ?k20 ?a21 ?l21 ?c21 ?k21 ?a22 ?l22 ?c22 ?k22 ?a23 ?l23 ?c23 ?k23 ?a24 ?l24 ?c24 ?k24 ?a25 ?l25 ?c25 ?k25 ?a26 ?l26 ?c26 ?k26 ?a27 ?l27 ?c27 ?k27 ?a28 ?l28 ?c28 ?k28 ?a29 ?l29 ?c29 ?k29 ?a30 ?l30 ?c30 ?k30 ?a31 ?l31 ?c31 ?k31 ?a32 ?l32 ?c32 ?k32 ?a33 ?l33 ?c33 ?k33 ?a34 ?l34 ?c34 ?k34 ?a35 ?l35 ?c35 ?k35 ?a36 ?l36 ?c36 ?k36 ?a37 ?l37 ?c37 ?k37 ?a38 ?l38 ?c38 ?k38 ?a39 ?l39 ?c39 ?k39 ?z_len ?z_int ?z_range ?z_min ?z_str ?z_tuple ?z_sorted ?z_isinstance ?z_any ?z_all ?z_list ?z_bool ?z_max ?z_set ?z_dict ?z_ValueError ?z_repr ?z_zip ?z_reversed ?z_sum ?z_enumerate ?gi0 ?gi1 ?gi2 ?gi3 ?gi4 ?gz0 ?gz1 ?gz2 ?gz3 ?gtaS ?ltaS ?gtaF ?ltaF ?gP ?aCL ?gE ?nB ?xB ?saB ?npB ?aiB ?kepB ?eCB ?tCB ?nD ?xD ?saD ?npD ?aiD ?kepD ?eCD ?tCD ?nR ?aM0 ?iM0 ?lM0 ?cM0 ?kM0 ?aM1 ?iM1 ?lM1 ?cM1 ?kM1 ?aM2 ?iM2 ?lM2 ?cM2 ?kM2 ?aM3 ?iM3 ?lM3 ?cM3 ?kM3 ?aM4 ?iM4 ?lM4 ?cM4 ?kM4 ?pgR ?hdR ?poR ?saR ?mkR ?kcR ?nSR ?nTR ?nAR ?xL ?kL ?bL ?tL ?iL ?sL ?iP ?tP ?sLP ?sLV ?gaL ?ggL ?hCL ?ccL ?sp1 ?sp2 ?moL ?tiT ?liT ?ciT ?kiT
    (case a1 => k_is)
    (case l1 => k_is)
    (case c1 => k_is)
    (case k1 => k_is)
    (case a2 => k_is)
    (case l2 => k_is)
    (case c2 => k_is)
    (case k2 => k_is)
    (case a3 => k_is)
    (case l3 => k_is)
    (case c3 => k_is)
    (case k3 => k_is)
    (case a4 => k_is)
    (case l4 => k_is)
    (case c4 => k_is)
    (case k4 => k_is)
    (case a5 => k_is)
    (case l5 => k_is)
    (case c5 => k_is)
    (case k5 => k_is)
    (case a6 => k_is)
    (case l6 => k_is)
    (case c6 => k_is)
    (case k6 => k_is)
    (case a7 => k_is)
    (case l7 => k_is)
    (case c7 => k_is)
    (case k7 => k_is)
    (case a8 => k_is)
    (case l8 => k_is)
    (case c8 => k_is)
    (case k8 => k_is)
    (case a9 => k_is)
    (case l9 => k_is)
    (case c9 => k_is)
    (case k9 => k_is)
    (case a10 => k_is)
    (case l10 => k_is)
    (case c10 => k_is)
    (case k10 => k_is)
    (case a11 => k_is)
    (case l11 => k_is)
    (case c11 => k_is)
    (case k11 => k_is)
    (case a12 => k_is)
    (case l12 => k_is)
    (case c12 => k_is)
    (case k12 => k_is)
    (case a13 => k_is)
    (case l13 => k_is)
    (case c13 => k_is)
    (case k13 => k_is)
    (case a14 => k_is)
    (case l14 => k_is)
    (case c14 => k_is)
    (case k14 => k_is)
    (case a15 => k_is)
    (case l15 => k_is)
    (case c15 => k_is)
    (case k15 => k_is)
    (case a16 => k_is)
    (case l16 => k_is)
    (case c16 => k_is)
    (case k16 => k_is)
    (case a17 => k_is)
    (case l17 => k_is)
    (case c17 => k_is)
    (case k17 => k_is)
    (case a18 => k_is)
    (case l18 => k_is)
    (case c18 => k_is)
    (case k18 => k_is)
    (case a19 => k_is)
    (case l19 => k_is)
    (case c19 => k_is)
    (case k19 => k_is)
    (case a20 => k_is)
    (case l20 => k_is)
    (case c20 => k_is)
    (case k20 => k_is)
    (case a21 => k_is)
    (case l21 => k_is)
    (case c21 => k_is)
    (case k21 => k_is)
    (case a22 => k_is)
    (case l22 => k_is)
    (case c22 => k_is)
    (case k22 => k_is)
    (case a23 => k_is)
    (case l23 => k_is)
    (case c23 => k_is)
    (case k23 => k_is)
    (case a24 => k_is)
    (case l24 => k_is)
    (case c24 => k_is)
    (case k24 => k_is)
    (case a25 => k_is)
    (case l25 => k_is)
    (case c25 => k_is)
    (case k25 => k_is)
    (case a26 => k_is)
    (case l26 => k_is)
    (case c26 => k_is)
    (case k26 => k_is)
    (case a27 => k_is)
    (case l27 => k_is)
    (case c27 => k_is)
    (case k27 => k_is)
    (case a28 => k_is)
    (case l28 => k_is)
    (case c28 => k_is)
    (case k28 => k_is)
    (case a29 => k_is)
    (case l29 => k_is)
    (case c29 => k_is)
    (case k29 => k_is)
    (case a30 => k_is)
    (case l30 => k_is)
    (case c30 => k_is)
    (case k30 => k_is)
    (case a31 => k_is)
    (case l31 => k_is)
    (case c31 => k_is)
    (case k31 => k_is)
    (case a32 => k_is)
    (case l32 => k_is)
    (case c32 => k_is)
    (case k32 => k_is)
    (case a33 => k_is)
    (case l33 => k_is)
    (case c33 => k_is)
    (case k33 => k_is)
    (case a34 => k_is)
    (case l34 => k_is)
    (case c34 => k_is)
    (case k34 => k_is)
    (case a35 => k_is)
    (case l35 => k_is)
    (case c35 => k_is)
    (case k35 => k_is)
    (case a36 => k_is)
    (case l36 => k_is)
    (case c36 => k_is)
    (case k36 => k_is)
    (case a37 => k_is)
    (case l37 => k_is)
    (case c37 => k_is)
    (case k37 => k_is)
    (case a38 => k_is)
    (case l38 => k_is)
    (case c38 => k_is)
    (case k38 => k_is)
    (case a39 => k_is)
    (case l39 => k_is)
    (case c39 => k_is)
    (case k39 => k_is)
    (case z_len => k_is)
    (case z_int => k_is)
    (case z_range => k_is)
    (case z_min => k_is)
    (case z_str => k_is)
    (case z_tuple => k_is)
    (case z_sorted => k_is)
    (case z_isinstance => k_is)
    (case z_any => k_is)
    (case z_all => k_is)
    (case z_list => k_is)
    (case z_bool => k_is)
    (case z_max => k_is)
    (case z_set => k_is)
    (case z_dict => k_is)
    (case z_ValueError => k_is)
    (case z_repr => k_is)
    (case z_zip => k_is)
    (case z_reversed => k_is)
    (case z_sum => k_is)
    (case z_enumerate => k_is)
    (case gi0 => k_is)
    (case gi1 => k_is)
    (case gi2 => k_is)
    (case gi3 => k_is)
    (case gi4 => k_is)
    (case gz0 => k_is)
    (case gz1 => k_is)
    (case gz2 => k_is)
    (case gz3 => k_is)
    (case gtaS => k_is)
    (case ltaS => k_is)
    (case gtaF => k_is)
    (case ltaF => k_is)
    (case gP => k_is)
    (case aCL => k_is)
    (case gE => k_is)
    (case nB => k_is)
    (case xB => k_is)
    (case saB => k_is)
    (case npB => k_is)
    (case aiB => k_is)
    (case kepB => k_is)
    (case eCB => k_is)
    (case tCB => k_is)
    (case nD => k_is)
    (case xD => k_is)
    (case saD => k_is)
    (case npD => k_is)
    (case aiD => k_is)
    (case kepD => k_is)
    (case eCD => k_is)
    (case tCD => k_is)
    (case nR => k_is)
    (case aM0 => k_is)
    (case iM0 => k_is)
    (case lM0 => k_is)
    (case cM0 => k_is)
    (case kM0 => k_is)
    (case aM1 => k_is)
    (case iM1 => k_is)
    (case lM1 => k_is)
    (case cM1 => k_is)
    (case kM1 => k_is)
    (case aM2 => k_is)
    (case iM2 => k_is)
    (case lM2 => k_is)
    (case cM2 => k_is)
    (case kM2 => k_is)
    (case aM3 => k_is)
    (case iM3 => k_is)
    (case lM3 => k_is)
    (case cM3 => k_is)
    (case kM3 => k_is)
    (case aM4 => k_is)
    (case iM4 => k_is)
    (case lM4 => k_is)
    (case cM4 => k_is)
    (case kM4 => k_is)
    (case pgR => k_is)
    (case hdR => k_is)
    (case poR => k_is)
    (case saR => k_is)
    (case mkR => k_is)
    (case kcR => k_is)
    (case nSR => k_is)
    (case nTR => k_is)
    (case nAR => k_is)
    (case xL => k_exc)
    (case kL => k_is)
    (case bL => k_is)
    (case tL => k_is)
    (case iL => k_is)
    (case sL => k_is)
    (case iP => k_is)
    (case tP => k_is)
    (case sLP => k_is)
    (case sLV => k_is)
    (case gaL => k_is)
    (case ggL => k_is)
    (case hCL => k_is)
    (case ccL => k_is)
    (case sp1 => k_is)
    (case sp2 => k_is)
    (case moL => k_is)
    (case tiT => k_is)
    (case liT => k_is)
    (case ciT => k_is)
    (case kiT => k_is)
#print axioms PySem.Challenge.cw_passproven_k03_written_terms_holds
