import PyProof.Rows.All
import Wide.All
import OpenK.AllK
import Wide.FinOn
import HandS.ForMost
import HandS.Wide
import HandS.IsInst
import HandS.More
import HandS.Conv
import HandS.Codes
import HandS.ForExc
import HandS.ExcInit
import HandS.ExcField
import HandS.TryMany
import KE.GoesEnum
import KE.KExcIs
import HandS.ExcIs
import HandS.Zip
import PyProof.ListNew
import HandS.Walk
import HandS.Style
import HandS.Flow
import PyProof.AttrMissHeap
import HandS.GenCall
import HandS.GenList
import HandS.GenOver
import HandS.GenYield
import HandS.Dict
import HandS.List
import PyProof.DictUpdate
import PyProof.TupleIter
import PyProof.WalksMore
import PyProof.EqLayable
import PyProof.NeData
import PyProof.Rows.SortShellAny
import HandS.DictComp
import KE.KxText
import HandS.Star
import HandS.Rev
import HandS.GenBody
import HandS.FStr
import HandS.SortInts
import HandS.Text
import HandS.WordsDict
import HandS.TupLe
import PySem.Challenge.RW_passproven_k44_whole_passes_without_faul
set_option Elab.async false
set_option linter.all false
set_option maxRecDepth 100000
namespace PKR
open PySem L2
/-! ### one of two walks, as it comes -/
theorem pi_or {X : Cx} {tg iter : Expr} {w1 w2 : TI} (a : PI X tg iter w1) (b : PI X tg iter w2) : PI X tg iter (fun σ H R => w1 σ H R ∨ w2 σ H R) :=
  ⟨fun pins s σ H R I h => h.elim (a.run pins s σ H R I) (b.run pins s σ H R I)⟩
/-! ### enumerate over a tuple -/
set_option maxHeartbeats 2000000 in
theorem meets_enum_any {v : Value} {o : Obj} {Hh : Heap → Prop} (B : Begins v o Hh) :
    Meets (Builtin.«enumerate.__new__» ⟨[.type "enumerate", v], []⟩) (fun _ R s => Hh s.heap ∧
      R (.ok (.ret (.ref (s.heap.push o).objs.size))) { s with heap := (s.heap.push o).push { cls := .type "enumerate", data := .fields #[.none, .bool false, .ref s.heap.objs.size, rawInt 0, .none, .none] } }) := by
  refine .of_wp fun prog w A R s h => ?_
  obtain ⟨hp, g, d, tk, os⟩ := s
  obtain ⟨hH, hR⟩ := h
  have sub_e := sub_enumerate
  have it_v : ∀ {A' : Around} {E Q : Value → Shared → Prop}, Q (.ref hp.objs.size) ⟨hp.push o, g, d, tk, os⟩ → wpAny (model prog w) A' (pyIter v) Q E ⟨hp, g, d, tk, os⟩ := fun z => B.iter prog w _ _ ⟨hp, g, d, tk, os⟩ _ hH z
  wp_walk using it_v
  refine wpAny_stack_any fun st => wpAny_pure ?_
  split
  · rename_i c _ _ _ _ _
    cases (c == Value.type "enumerate") <;> (wp_walk using it_v; exact ⟨_, rfl, hR⟩)
  · wp_walk using it_v
    exact ⟨_, rfl, hR⟩
theorem call_enum_any {prog : Program} {w : World} {A : Around} {E : Value → Shared → Prop} {s : Shared} {v : Value} {o : Obj} {Hh : Heap → Prop} {Q : Value → Shared → Prop} (B : Begins v o Hh) (hH : Hh s.heap)
    (hq : ∀ h', IsEnum h' (s.heap.objs.size + 1) s.heap.objs.size 0 .none → h'.get? s.heap.objs.size = some o → (∀ b u, s.heap.get? b = some u → h'.get? b = some u) → Q (.ref (s.heap.objs.size + 1)) { s with heap := h' }) :
    wpAny (model prog w) A (call (.type "enumerate") [v]) Q E s := by
  refine callType_new F.called_enumerate (by decide) (F.typeCall_enumerate_1 _) (F.newCall_enumerate_1 _) (fun obj => F.args_object_init_2 obj _) F.entry_enumerate_new (meets_enum_any B) ⟨hH, ?_⟩
  have sz : (s.heap.push o).objs.size = s.heap.objs.size + 1 := Heap.size_push ..
  show _ ∧ _
  rw [sz]
  have en : IsEnum ((s.heap.push o).push { cls := .type "enumerate", data := .fields #[.none, .bool false, .ref s.heap.objs.size, rawInt 0, .none, .none] }) (s.heap.objs.size + 1) s.heap.objs.size 0 .none := by
    have g := Heap.get?_push_size (s.heap.push o) (o := { cls := .type "enumerate", data := .fields #[.none, .bool false, .ref s.heap.objs.size, rawInt 0, .none, .none] }) rfl
    rw [sz] at g
    exact g
  exact ⟨⟨_, en, rfl⟩, hq _ en (Heap.get?_push_of_some _ (Heap.get?_push_size _ B.free)) fun b u z => Heap.get?_push_of_some _ (Heap.get?_push_of_some _ z)⟩
/-- the tuple at a, each item in a new pair with its number -/
def ItE (K : PySem.W.Frag) (a : Addr) : It :=
  ⟨fun i H => ∃ (xs : List V) (x : V), SqT K H a xs ∧ xs[i]? = some x, fun i H v H' => ∃ T x, v = .ref T ∧ H T = none ∧ H' = upd H T (.tup [.int (i : Nat), x]) ∧ ∀ xs, SqT K H a xs → xs[i]? = some x, fun i H => ∃ xs : List V, SqT K H a xs ∧ xs.length = i⟩
theorem pair_mem {b e it : Addr} (h : b ∈ [e, it]) : b = e ∨ b = it := by simpa using h
theorem turn_enumT {P : Program} {w : World} {K : PySem.W.Frag} {es : List Expr} {k : Nat} {pos : Pos} (a e it : Addr) :
    Turn P w K (.Tuple es k pos) (ItE K a) [e, it] e (fun i h => (∃ old, IsEnum h e it ((i : Nat) : Int) old) ∧ h.IsTupleIter it a i ∧ e ≠ it ∧ a ≠ it ∧ e ≠ a) where
  mem := List.mem_cons_self
  obj := fun i h st b hb => by
    obtain ⟨⟨old, he⟩, ⟨o, ho, _, hd⟩, _⟩ := st
    rcases pair_mem hb with rfl | rfl
    · exact ⟨_, he, fun v q => nomatch q⟩
    · exact ⟨o, ho, fun v q => by rw [hd] at q; cases q⟩
  keep := fun i h h' st k => by
    obtain ⟨⟨old, he⟩, hi, ne⟩ := st
    exact ⟨⟨old, k e List.mem_cons_self _ he⟩, hi.at fun o q => k it (List.mem_cons_of_mem _ List.mem_cons_self) o q, ne⟩
  item := by
    intro X eP ew eK calm i pins s σ H E I free st go
    subst eP ew eK
    obtain ⟨⟨old, he⟩, hi, ne, na, nea⟩ := st
    obtain ⟨xs, x, hx, gx⟩ := go
    obtain ⟨its, rv, pT, _⟩ := I.tuple hx
    obtain ⟨u, gu, ru⟩ := rv.get gx
    have hh : X.A.handled = none := I.ok.hd calm
    have D := Draws.tuple (prog := X.prog) (w := X.w) (A := X.A.in1) hh it a na its.toArray
    have lt : i < its.toArray.size := by
      have := (List.getElem?_eq_some_iff.mp gu).1
      simpa using this
    have be := Heap.lt_size he
    have bi : it < s.heap.objs.size := by obtain ⟨_, q, _⟩ := hi; exact Heap.lt_size q
    refine wpAny_pyNext_enum_itemD D he ⟨hi, show s.heap.IsTuple a its.toArray from pT⟩ lt ne (fun m => (pair_mem m).elim ne nea) fun y h1 tk hy out st1 hT _ old1 => ?_
    have ey : y = u := by
      have : its.toArray[i]? = some u := by simpa using gu
      rw [hy] at this
      exact Option.some.inj this
    subst ey
    refine ⟨_, rfl, wpAny_letOwnedTupleGo_enum (s := { s with heap := h1, toks := tk + 1 }) out fun h2 en sb => ?_⟩
    have hT2 := (sb.2 _ (Nat.ne_of_gt be)).trans hT
    have obj : ObjOk X.prog X.w (upd H s.heap.objs.size (.tup [.int (i : Nat), x])) h2 s.heap.objs.size (.tup [.int (i : Nat), x]) :=
      ⟨by show 2 ≤ sizeLine; decide, [.int i tk, y], .cons ⟨_, rfl⟩ (.cons ru .nil), ⟨_, hT2, rfl, _, rfl⟩⟩
    have J : Inv X pins σ (upd H s.heap.objs.size (.tup [.int (i : Nat), x])) { s with heap := h2, toks := tk + 1 } :=
      I.turnedNew (ch := [e, it]) (fun b ob nb q => by
        have n1 : b ≠ e := fun z => nb (by rw [z]; exact List.mem_cons_self)
        have n2 : b ≠ it := fun z => nb (by rw [z]; exact List.mem_cons_of_mem _ List.mem_cons_self)
        exact (sb.2 b n1).trans (old1 b ob n1 n2 q)) free (Nat.le_refl _) obj
    refine ⟨.ref s.heap.objs.size, _, J, rfl, ⟨_, x, rfl, I.hok.fresh (Nat.le_refl _), rfl, fun ys hy' => by rw [I.tuple_inj hy' hx]; exact gx⟩, ⟨⟨y, ?_⟩, st1.1.at fun o q => (sb.2 it ne.symm).trans q, ne, na, nea⟩, fun b hb => ?_⟩
    · rw [show ((i + 1 : Nat) : Int) = (i : Int) + 1 by omega]
      exact en
    · have lb : b < s.heap.objs.size := by
        rcases pair_mem hb with rfl | rfl
        · exact be
        · exact bi
      rw [upd_ne (Nat.ne_of_lt lb)]
      exact (free b hb).1
  done := by
    intro X eP ew eK calm i pins s σ H E I free st stop
    subst eP ew eK
    obtain ⟨⟨old, he⟩, hi, ne, na, nea⟩ := st
    obtain ⟨xs, hx, lx⟩ := stop
    obtain ⟨its, rv, pT, _⟩ := I.tuple hx
    have hh : X.A.handled = none := I.ok.hd calm
    have D := Draws.tuple (prog := X.prog) (w := X.w) (A := X.A.in1) hh it a na its.toArray
    have ei : its.toArray.size = i := by rw [List.size_toArray, ← rv.length, lx]
    obtain ⟨f0, f1, f2, f3, f4, f5⟩ := free it (List.mem_cons_of_mem _ List.mem_cons_self)
    exact wpAny_pyNext_enum_endD D he ⟨by rw [ei]; exact hi, show s.heap.IsTuple a its.toArray from pT⟩ fun h2 old1 => ⟨rfl, I.turned (t' := s.toks) (fun b o nb q => old1 b o nb q) f0 f1 f3 f4 f5⟩
  self := fun A i s Q E st h => by
    obtain ⟨⟨_, he⟩, _⟩ := st
    exact wpAny_pyIter_enum he h
def iEnumT (K : PySem.W.Frag) (ta : TA) : TI := fun σ H R => ta σ H fun vs H1 => ∃ a xs, vs = [.ref a] ∧ SqT K H1 a xs ∧ R (ItE K a) H1
theorem pi_enumT {X : Cx} {e : Expr} {ta : TA} {p pos tpos : Pos} {es : List Expr} {k : Nat} (hg : Gl X "enumerate") (hm : X.mg "enumerate" = none) (ha : PA X [e] ta) (hs : starEach [e] X.env = [(false, eval e X.env)] := by rfl) :
    PI X (.Tuple es k tpos) (.Call (.Name "enumerate" p) [e] [] pos) (iEnumT X.K ta) := by
  refine ⟨fun pins s σ H R I h => PyProof.Rows.Call_ (ld_blt I hg hm PyProof.Rows.boot_enumerate (PyProof.Rows.callWith_type1 (thn (ha.run pos pins s σ H _ I h) fun us s1 hz => ?_) hs rfl))⟩
  obtain ⟨vs, H1, I1, rs, a, xs, rfl, hx, q⟩ := hz
  cases rs with
  | cons r rest =>
    cases rest
    cases r
    obtain ⟨its, rv, pT, _⟩ := I1.tuple hx
    have la : a < s1.heap.objs.size := pT.lt
    refine call_enum_any (begins_tuple a its.toArray) (show s1.heap.IsTuple a its.toArray from pT) fun h2 en gi old => wpAny_pyIter_enum en ?_
    have J : Inv X pins σ H1 { s1 with heap := h2 } := I1.kept (t' := s1.toks) old
    have na : a ≠ s1.heap.objs.size := Nat.ne_of_lt la
    have nea : s1.heap.objs.size + 1 ≠ a := Nat.ne_of_gt (Nat.lt_succ_of_lt la)
    refine ⟨_, [s1.heap.objs.size + 1, s1.heap.objs.size], _, _, H1, rfl, J, turn_enumT a (s1.heap.objs.size + 1) s1.heap.objs.size, ⟨⟨.none, en⟩, ⟨_, gi, rfl, rfl⟩, Nat.succ_ne_self _, na, nea⟩, fun b hb => ?_, q⟩
    have lb : s1.heap.objs.size ≤ b := by
      rcases pair_mem hb with rfl | rfl
      · exact Nat.le_succ _
      · exact Nat.le_refl _
    exact I1.fpOk lb (I1.hok.fresh lb)
/-! ### an empty tuple and another one -/
def rCat0 (K : PySem.W.Frag) : R2 := fun x y H Q => ∃ a b ys, x = .ref a ∧ y = .ref b ∧ SqT K H a [] ∧ SqT K H b ys ∧ Q (.ref b) H
theorem op_cat0 {X : Cx} : OpR X (binaryOp .Add) (rCat0 X.K) := by
  intro pins s σ H x y v u Q I rx ry h
  obtain ⟨a, b, ys, rfl, rfl, ha, hb, q⟩ := h
  cases rx
  cases ry
  obtain ⟨i1, r1, p1, _⟩ := I.tuple ha
  obtain ⟨i2, r2, p2, _⟩ := I.tuple hb
  cases r1
  obtain ⟨⟨c1, d1, t1, l1⟩, g1, e1, n1, f1⟩ := id p1
  obtain ⟨⟨c2, d2, t2, l2⟩, g2, e2, n2, f2⟩ := id p2
  simp only at e1 f1 e2 f2
  subst e1 f1 e2 f2
  exact PySem.concat_meets ⟨_, g1, rfl⟩ ⟨_, g2, rfl⟩ PySem.noFill_tuple_add PySem.seq_tuple_add PySem.F.slot_tuple_add PySem.F.entry_tuple_add (PySem.F.args_tuple_add_2 _ _)
    (PyProof.Rows.tuple_addW0 a b #[] i2.toArray n1 n2 d1 d2 l1 l2 rfl) ⟨g1, g2, ⟨.ref b, H, I, rfl, q⟩⟩
/-- t + u -/
def rCatA (K : PySem.W.Frag) : R2 := fun x y H Q => rCatT K x y H Q ∨ rCat0 K x y H Q
theorem op_catA {X : Cx} : OpR X (binaryOp .Add) (rCatA X.K) := op_catT.or op_cat0
end PKR
/-! a try with several clauses 'except X as n', every one with its own suite -/
namespace L2.PKR
open PySem PySem.Spec PyProof.Rows
abbrev Suite := Addr → Value → Option Addr → TS
/-- the ends of a suite whose name is given back -/
def offEnds (i : Nat) (D : Ends) : Ends := ⟨fun p q => D.nx (p.set i none) q, D.rt, fun p q => D.bk (p.set i none) q, fun p q => D.ct (p.set i none) q⟩
/-- the wish of the clauses, in their order -/
def wRow (K : PySem.W.Frag) (Wout : WX) (D : Ends) : List (Value × Nat × Suite) → WX
  | [] => Wout
  | (c, i, ts) :: rest => fun cls d σ H =>
    ∃ yes, PySem.W.exmOne K cls c = some yes ∧ (yes = true → ∀ a, H a = none → ts a cls d (offEnds i D) (σ.set i (some (.ref a))) H) ∧ (yes = false → wRow K Wout D rest cls d σ H)
/-- the exception at a, caught and on the ground -/
structure Down (X : Cx) (pins : List (Addr × Obj)) (B : Heap) (a : Addr) (before : Shared) (σ : St) (H : Hp) (cls : Value) (d : Option Addr) (s : Shared) : Prop where
  inv : Inv X pins σ H before
  base : ∀ b o, before.heap.get? b = some o → b ∉ frs X.stack → B.get? b = some o
  slots : before.heap.UpToSlots s.heap
  fly : HandSPX.FlyingZ B (X.env :: X.outer) a (Zc cls d) s.heap
  out : H a = none
  os : s.os = before.os
  bare : AllBare s.gens
section
variable {X : Cx} {pins : List (Addr × Obj)} {B : Heap} {a : Addr} {before s : Shared} {σ : St} {H : Hp} {cls : Value} {d : Option Addr} {D : Ends} {Wout : WX}
theorem Down.here (z : Down X pins B a before σ H cls d s) : Inv X pins σ H s := z.inv.landed z.base z.fly.1 z.slots z.os z.bare
/-- its object, and that it is none of the frames' -/
theorem Down.obj (hf : X.env.frame = some X.env.locals) (z : Down X pins B a before σ H cls d s) : ∃ oe vs, s.heap.get? a = some oe ∧ Zc cls d oe ∧ oe.data = .fields vs ∧ a ≠ X.env.locals ∧ a ∉ X.fs := by
  obtain ⟨oe, vs, he, hz, hd⟩ := z.fly.there
  have nfr : a ∉ frs (X.env :: X.outer) := fun hm => by
    obtain ⟨_, o2, e2, no⟩ := z.fly.2.2.1.mem hm
    rw [he] at e2
    cases e2
    exact no _ hd
  refine ⟨oe, vs, he, hz, hd, fun q => nfr (List.mem_filterMap.mpr ⟨X.env, .head _, by rw [hf, q]⟩), fun q => ?_⟩
  obtain ⟨en, m, r⟩ := List.mem_filterMap.mp q
  exact nfr (List.mem_filterMap.mpr ⟨en, .tail _ m, r⟩)
theorem Down.more (z : Down X pins B a before σ H cls d s) {h : Heap} (fl : HandSPX.FlyingZ B (X.env :: X.outer) a (Zc cls d) h) (up : s.heap.UpToSlots h) : Down X pins B a before σ H cls d { s with heap := h } :=
  ⟨z.inv, z.base, z.slots.trans up, fl, z.out, z.os, z.bare⟩
/-- no clause is left -/
theorem row_nil (hs : X.stack = X.env :: X.outer) (hf : X.env.frame = some X.env.locals) (tk : Takes X Wout) (z : Down X pins B a before σ H cls d s) (w : Wout cls d σ H) :
    wpAny (model X.prog X.w) X.A (handleBy (.ref a) X.env []) (SP X pins D) X.xe s := by
  refine wpAny_handleBy_nil ?_
  obtain ⟨_, _, _, oe, vs, T, _, _, he, _, hd, h1, _⟩ := id z.fly
  unfold PySem.passOn
  refine wpAny_bind (wpAny_field he hd h1 ?_)
  rw [if_neg (show ¬ ((Value.ref T == Value.none) = true) by simp)]
  have last : wpAny (model X.prog X.w) X.A (setFlight (.ref a) X.env.frame) (fun _ s2 => wpAny (model X.prog X.w) X.A (throw (.ref a) : Sem Flow) (SP X pins D) X.xe s2) X.xe s := by
    rw [hf]
    refine HandSPX.setFlight_upZ z.fly fun h2 held up => wpAny_throw (tk _ _ ?_)
    exact ⟨a, B, before, pins, σ, H, cls, d, rfl, z.inv, z.base, z.slots.trans up, .inr (.inr (by rw [hs]; exact held)), z.out, z.os, z.bare, w⟩
  first
    | exact wpAny_bind (wpAny_pure (wpAny_bind last))
    | exact wpAny_bind last
/-- one clause -/
theorem row_cons {x n : Str} {c : Value} {i : Nat} {b₀ : Stmt} {more : List Stmt} {np pos : Pos} {ts : Suite} {hds : List ExceptHandler} {yes : Bool} (hf : X.env.frame = some X.env.locals) (hN : X.N.Nodup) (hi : X.N[i]? = some n)
    (hl : X.env.kindOf n = some .local) (hc : Names X x c)
    (body : ∀ (a : Addr) (oe : Obj) (cls : Value) (d : Option Addr) (pn : List (Addr × Obj)), Zc cls d oe → (∃ vs, oe.data = .fields vs) → PSs (X.suite a ((a, oe) :: pn)) (b₀ :: more) (ts a cls d))
    (z : Down X pins B a before σ H cls d s) (hy : PySem.W.exmOne X.K cls c = some yes) (t : yes = true → ts a cls d (offEnds i D) (σ.set i (some (.ref a))) H)
    (f : yes = false → wpAny (model X.prog X.w) X.A (handleBy (.ref a) X.env hds) (SP X pins D) X.xe s) :
    wpAny (model X.prog X.w) X.A (handleBy (.ref a) X.env (.ExceptHandler (some (.Name x np)) (some n) (b₀ :: more) pos :: hds)) (SP X pins D) X.xe s := by
  have ok := z.inv.ok
  obtain ⟨oe, vs, he, hz, hd, nL, nF⟩ := z.obj hf
  have S := z.here.suite he hd z.out nL nF
  refine wpAny_handleBy_cons (codeAny_handlers_test ?_) (fun q => nomatch q)
  have ty : PySem.W.Looks (model X.prog X.w) s.heap (typeOf (.ref a)) cls := fun _ _ _ _ k q => wpAny_typeOf_ref (k _ _ he) (by rw [hz.1]; exact q)
  have isIt := PySem.W.exm_one (M := model X.prog X.w) z.here.kIn ty hy
  have named : ∀ {Q E : Value → Shared → Prop}, Q c s → wpAny (model X.prog X.w) (X.A.mark (some (.ref a))) (eval (.Name x np) X.env) Q E s := fun {Q E} q => by
    obtain ⟨hg, nd, hm | ⟨hm, hv, hn⟩⟩ := hc
    · exact ld_glob (X := X.suite a ((a, oe) :: (X.pn ++ pins))) S hg hm q nd
    · exact ld_blt (X := X.suite a ((a, oe) :: (X.pn ++ pins))) S hg hm hv q hn nd
  refine named (isIt.here ?_)
  cases yes with
  | false => exact f rfl
  | true =>
    refine codeAny_handlers_suite_as (HandSPX.lands_againZ z.fly fun h2 fl up => ?_)
    have z2 := z.more fl up
    obtain ⟨oe2, vs2, he2, hz2, hd2, nL2, nF2⟩ := z2.obj hf
    refine store_ok (X := X.suite a ((a, oe2) :: (X.pn ++ pins))) (v := .ref a) (z2.here.suite he2 hd2 z.out nL2 nF2) hN hi (.inl hl) rfl (fun s3 S3 => ?_) (.inr hl)
    have run := (body a oe2 cls d (X.pn ++ pins) hz2 ⟨_, hd2⟩).run [] s3 (σ.set i (some (.ref a))) H (offEnds i D) S3 (t rfl)
    have gone : ∀ {p : St} {q : Hp} {s4 : Shared} {Q : Shared → Prop}, Inv (X.suite a ((a, oe2) :: (X.pn ++ pins))) [] p q s4 → (∀ s5, Inv X pins (p.set i none) q s5 → Q s5) →
        wpAny (model X.prog X.w) X.A (do bindName X.env n .none; unbindBehindTheSuite X.env n pos) (fun _ s5 => Q s5) X.xe s4 := fun S4 k => gone_ok (S4.unsuite ok) hN hi hl k
    refine wpAny_mono run (fun fl4 s4 done => ?_) (fun _ _ no => False.elim no)
    rcases fl4 with _ | _ | _ | u
    · obtain ⟨p, q, S4, k⟩ := done
      exact gone S4 fun s5 J => ⟨_, _, J, k⟩
    · obtain ⟨p, q, S4, k⟩ := done
      exact gone S4 fun s5 J => ⟨_, _, J, k⟩
    · obtain ⟨p, q, S4, k⟩ := done
      exact gone S4 fun s5 J => ⟨_, _, J, k⟩
    · obtain ⟨v, p, q, S4, r, k⟩ := done
      exact gone S4 fun s5 J => ⟨_, _, _, J, r, k⟩
end
/-- the clauses and their wishes -/
inductive Row (X : Cx) : List ExceptHandler → List (Value × Nat × Suite) → Prop
  | nil : Row X [] []
  | cons {x n : Str} {c : Value} {i : Nat} {b₀ : Stmt} {more : List Stmt} {np pos : Pos} {ts : Suite} {hds : List ExceptHandler} {l : List (Value × Nat × Suite)} (hi : X.N[i]? = some n) (hl : X.env.kindOf n = some .local) (hc : Names X x c)
      (body : ∀ (a : Addr) (oe : Obj) (cls : Value) (d : Option Addr) (pn : List (Addr × Obj)), Zc cls d oe → (∃ vs, oe.data = .fields vs) → PSs (X.suite a ((a, oe) :: pn)) (b₀ :: more) (ts a cls d)) (r : Row X hds l) :
      Row X (.ExceptHandler (some (.Name x np)) (some n) (b₀ :: more) pos :: hds) ((c, i, ts) :: l)
theorem row_runs {X : Cx} {pins : List (Addr × Obj)} {B : Heap} {a : Addr} {before s : Shared} {σ : St} {H : Hp} {cls : Value} {d : Option Addr} {D : Ends} {Wout : WX} (hs : X.stack = X.env :: X.outer) (hf : X.env.frame = some X.env.locals) (hN : X.N.Nodup) (tk : Takes X Wout)
    {hds : List ExceptHandler} {l : List (Value × Nat × Suite)} (hh : Row X hds l) (z : Down X pins B a before σ H cls d s) (w : wRow X.K Wout D l cls d σ H) : wpAny (model X.prog X.w) X.A (handleBy (.ref a) X.env hds) (SP X pins D) X.xe s := by
  induction hh with
  | nil => exact row_nil hs hf tk z w
  | cons hi hl hc body r ih =>
    obtain ⟨yes, hy, t, f⟩ := w
    exact row_cons hf hN hi hl hc body z hy (fun e => t e a z.out) fun e => ih (f e)
theorem ps_try_row {X : Cx} {body : List Stmt} {h₀ : ExceptHandler} {hds : List ExceptHandler} {l : List (Value × Nat × Suite)} {pos : Pos} {tb : WX → TS} {Wout : WX} (hs : X.stack = X.env :: X.outer) (hf : X.env.frame = some X.env.locals) (hN : X.N.Nodup) (tk : Takes X Wout)
    (hb : ∀ (W : WX) (pn : List (Addr × Obj)) (xe : Value → Shared → Prop), Takes (X.tr pn xe) W → PassesOwn (model X.prog X.w) X.A X.env xe → PSs (X.tr pn xe) body (tb W))
    (hh : Row X (h₀ :: hds) l) : PS X (.Try body (h₀ :: hds) [] [] pos) (fun D σ H => tb (wRow X.K Wout D l) D σ H) := by
  refine ⟨fun pins s σ H D I h => wpAny_Try_except ?_⟩
  have ok := I.ok
  have fr : X.A.frames = some (X.env :: X.outer) := by rw [ok.frames, hs]
  have inner := hb (wRow X.K Wout D l) (X.pn ++ pins)
    (fun e s1 => wpAny (model X.prog X.w) X.A (noteFrame e X.env) (fun _ s2 => wpAny (model X.prog X.w) X.A (setFlight e none) (fun _ s3 => wpAny (model X.prog X.w) X.A (handleBy e X.env (h₀ :: hds)) (SP X pins D) X.xe s3) X.xe s2) X.xe s1)
    (fun u s1 air => by
      obtain ⟨a, B, before, pins1, p, q, cls, d, rfl, J, base, up, sky, out, os, bare, w⟩ := air
      have J1 : Inv X pins p q before := J.ofTry ok
      refine Sky.land Zc.steady fr hf (show Sky B (X.env :: X.outer) a (Zc cls d) X.env.locals s1.heap by rw [← hs]; exact sky) fun h2 fl up2 => ?_
      exact row_runs hs hf hN tk hh (s := { s1 with heap := h2 }) ⟨J1, base, up.trans up2, fl, out, os, bare⟩ w)
    PassesOwn.looking
  refine wpAny_mono (inner.run [] s σ H D (I.toTry _) h) (fun f s1 done => ?_) (fun _ _ k => k)
  rcases f with _ | _ | _ | u
  · obtain ⟨p, q, J, k⟩ := done
    exact wpAny_execs_nil ⟨p, q, J.ofTry ok, k⟩
  · obtain ⟨p, q, J, k⟩ := done
    exact ⟨p, q, J.ofTry ok, k⟩
  · obtain ⟨p, q, J, k⟩ := done
    exact ⟨p, q, J.ofTry ok, k⟩
  · obtain ⟨v, p, q, J, r, k⟩ := done
    exact ⟨v, p, q, J.ofTry ok, r, k⟩
end L2.PKR
/-! isinstance(e, C), e a caught error of an own class with fields -/
namespace L2.PKR
open PySem PySem.Spec PyProof.Rows
def rIsX (K : PySem.W.Frag) (a : Addr) (cls : Value) (d : Option Addr) : List V → Hp → VK → Prop := fun xs H Q =>
  ∃ (c : V) (cv : Value) (yes : Bool) (D dd : Addr) (fs : List (Str × V)), xs = [.ref a, c] ∧ (∀ u, RelV c u → u = cv) ∧ cls = .ref D ∧ d = some dd ∧ H dd = some (.xd fs) ∧ ExcC K D ∧ PySem.W.kitOne K (.ref D) cv = some yes ∧ Q (.bl yes) H
theorem call_isX {X : Cx} {a : Addr} {oe : Obj} {cls : Value} {d : Option Addr} {pn : List (Addr × Obj)} (hz : Zc cls d oe) (hf : ∃ vs, oe.data = .fields vs) : CallR (X.suite a ((a, oe) :: pn)) (.builtin "isinstance") (rIsX X.K a cls d) := by
  intro pins s σ H xs us Q I r h
  obtain ⟨c, cv, yes, D, dd, fs, rfl, hcv, rfl, rfl, hx, C, hk, q⟩ := h
  rcases r with _ | ⟨rx, rr⟩
  rcases rr with _ | ⟨rc, rr⟩
  cases rr
  cases rx
  cases hcv _ rc
  have at_a := (I.pin (a, oe) (List.mem_append_left _ (.head _))).1
  obtain ⟨vs, hd⟩ := hf
  obtain ⟨mA, hns, _⟩ := (show ObjOk X.prog X.w H s.heap dd (.xd fs) from I.hok dd _ hx)
  obtain ⟨od, ho, _⟩ := lookIn_ns hns
  have J : PySem.W.InstAt s.heap a oe D (some od) := ⟨at_a, hz.1, by unfold PySem.W.notCls; rw [hd] <;> rfl, by rw [hz.2]; exact ho⟩
  obtain ⟨cd, hcd, _⟩ := PySem.W.any_some C.hd
  exact PySem.W.kia_one (PySem.W.kitx_exc (by rw [hcd]; rfl) C.hg C.hk C.hs C.ha C.hn C.ht C.hm) I.kIn J hk (fun e => nomatch e) fun tk => ⟨.bl yes, H, I.kept (t' := tk) fun _ _ k => k, rfl, q⟩
end L2.PKR
namespace PKZ
open PySem PySem.Spec PyProof.Rows L2
/-! zip of a list or a tuple with a list or a tuple, collected -/
inductive Kd where | l | t
def Kd.It : Kd → Heap → Addr → Addr → Nat → Prop
  | .l, h, i, a, k => h.IsListIter i a k
  | .t, h, i, a, k => h.IsTupleIter i a k
def Kd.Sq : Kd → Heap → Addr → Array Value → Prop
  | .l, h, a, xs => h.IsList a xs
  | .t, h, a, xs => h.IsTuple a xs
section
variable {prog : Program} {w : World} {A : Around} {E : Value → Shared → Prop} {s : Shared}
theorem Kd.it_at {kd : Kd} {h h' : Heap} {i a : Addr} {k : Nat} (q : kd.It h i a k) (e : ∀ o, h.get? i = some o → h'.get? i = some o) : kd.It h' i a k := by
  cases kd with
  | l => exact Heap.IsListIter.at q e
  | t => exact Heap.IsTupleIter.at q e
theorem Kd.sq_at {kd : Kd} {h h' : Heap} {a : Addr} {xs : Array Value} (q : kd.Sq h a xs) (e : ∀ o, h.get? a = some o → h'.get? a = some o) : kd.Sq h' a xs := by
  cases kd with
  | l => exact Heap.IsList.at q e
  | t => exact Heap.IsTuple.at q e
theorem nx_item {kd : Kd} {i a : Addr} {k : Nat} {xs : Array Value} {x : Value} {Q : Value → Shared → Prop} (q : kd.It s.heap i a k) (q2 : kd.Sq s.heap a xs) (hx : xs[k]? = some x)
    (hQ : ∀ h', kd.It h' i a (k + 1) → Heap.SameBut i s.heap h' → Q x { s with heap := h' }) : wpAny (model prog w) A (Builtin.SmallTypes.nextOf (.ref i)) Q E s := by
  cases kd with
  | l => exact wpAny_nextOf_list_item q q2 hx hQ
  | t => exact RZ.nextOf_tuple_item q q2 hx hQ
theorem nx_end {kd : Kd} {i a : Addr} {k : Nat} {xs : Array Value} {Q : Value → Shared → Prop} (hh : A.handled = none) (q : kd.It s.heap i a k) (q2 : kd.Sq s.heap a xs) (hx : xs[k]? = none)
    (hE : ∀ h' e, Heap.ExtBut i s.heap h' → (∃ o, h'.get? e = some o ∧ o.cls = .type "StopIteration") → E (.ref e) { s with heap := h' }) : wpAny (model prog w) A (Builtin.SmallTypes.nextOf (.ref i)) Q E s := by
  cases kd with
  | l => exact wpAny_nextOf_list_end hh q q2 hx hE
  | t => exact RZ.nextOf_tuple_end hh q q2 hx hE
theorem Kd.it_get {kd : Kd} {h : Heap} {i a : Addr} {k : Nat} (q : kd.It h i a k) : ∃ o, h.get? i = some o ∧ ∀ v, o.data ≠ .cell v := by
  cases kd with
  | l => obtain ⟨o, e, _, d⟩ := q; exact ⟨o, e, fun v z => by rw [d] at z; cases z⟩
  | t => obtain ⟨o, e, _, d⟩ := q; exact ⟨o, e, fun v z => by rw [d] at z; cases z⟩
/-- a zip object; b: its own pair is held elsewhere -/
abbrev Zo (h : Heap) (z TI TO : Addr) (f0 : Value) (b : Bool) : Prop :=
  h.get? z = some { cls := .type "zip", dict := none, data := .fields #[f0, .bool b, .bool false, .ref TI, .ref TO], slots := #[] }
theorem w_alive {M : Model} {a : Addr} {Q : Option Obj → Shared → Prop} (h : Q (s.heap.get? a) s) : wpAny M A (loadIfAlive a) Q E s := fun _ _ _ => h
/-- its own pair is held -/
theorem not_free {z TI TO T0 : Addr} {bb : Bool} {o0 : Obj} {Q : Bool → Shared → Prop} (hz : Zo s.heap z TI TO (rawInt T0) bb) (h0 : s.heap.get? T0 = some o0)
    (hQ : ∀ h', Zo h' z TI TO (rawInt T0) true → Heap.SameBut z s.heap h' → Q false { s with heap := h' }) : wpAny (model prog w) A (Builtin.SmallTypes.ownedTupleIsFree (.ref z)) Q E s := by
  unfold Builtin.SmallTypes.ownedTupleIsFree
  refine wpAny_bind (wpAny_field hz rfl (x := rawInt T0) rfl ?_)
  show wpAny _ _ (loadIfAlive (T0 : Int).toNat >>= _) _ _ _
  refine wpAny_bind (w_alive ?_)
  rw [Int.toNat_natCast, h0]
  show wpAny _ _ (field (.ref z) 1 >>= _) _ _ _
  refine wpAny_bind (wpAny_field hz rfl (x := .bool bb) rfl ?_)
  cases bb with
  | true => exact wpAny_pure (hQ _ hz ⟨rfl, fun _ _ => rfl⟩)
  | false =>
    show wpAny _ _ (setField (.ref z) 1 (.bool true) >>= _) _ _ _
    exact wpAny_bind (wpAny_setField_rec hz (by simp) fun h1 e1 e2 => wpAny_pure (hQ h1 e1 e2))
/-- its next pair, its own one being held -/
theorem held_item {ka kb : Kd} {z TI TO i1 i2 l1 l2 T0 : Addr} {n m : Nat} {bb : Bool} {xs ys : Array Value} {x y : Value} {o0 : Obj} {Q : Value → Shared → Prop} (D : ZipApart z TI TO i1 i2 l1 l2)
    (hz : Zo s.heap z TI TO (rawInt T0) bb) (h0 : s.heap.get? T0 = some o0) (hTI : IsPair s.heap TI (.ref i1) (.ref i2))
    (h1 : ka.It s.heap i1 l1 n) (h2 : kb.It s.heap i2 l2 m) (q1 : ka.Sq s.heap l1 xs) (q2 : kb.Sq s.heap l2 ys) (hx : xs[n]? = some x) (hy : ys[m]? = some y)
    (hQ : ∀ h', Zo h' z TI TO (rawInt T0) true → ka.It h' i1 l1 (n + 1) → kb.It h' i2 l2 (m + 1) → IsPair h' s.heap.objs.size x y → h'.objs.size = s.heap.objs.size + 1 →
      (∀ c o, c ≠ z → c ≠ i1 → c ≠ i2 → s.heap.get? c = some o → h'.get? c = some o) → Q (.ref s.heap.objs.size) { s with heap := h' }) :
    wpAny (model prog w) A (Builtin.«zip.__next__» ⟨[.ref z], []⟩) (fun fin s' => ∃ v, fin = .done (.ret v) ∧ Q v s') E s := by
  show wpAny _ _ (field (.ref z) 2 >>= _) _ _ _
  refine wpAny_bind (wpAny_field hz rfl (x := .bool false) rfl ?_)
  show wpAny _ _ (field (.ref z) 3 >>= _) _ _ _
  refine wpAny_bind (wpAny_field hz rfl (x := .ref TI) rfl (wpAny_bind (wpAny_seqItems hTI rfl ?_)))
  show wpAny _ _ (Builtin.SmallTypes.ownedTupleIsFree (.ref z) >>= _) _ _ _
  refine wpAny_bind (not_free hz h0 fun g1 z1 e1 => ?_)
  rw [if_neg Bool.false_ne_true]
  dsimp only
  refine wpAny_bind ?_
  rw [← Array.forIn_toList]
  simp only [List.forIn_cons, List.forIn_nil]
  refine wpAny_bind (wpAny_bind (wpAny_holding ?_))
  have a1 : ka.It g1 i1 l1 n := Kd.it_at h1 fun o q => e1.extBut _ _ D.i1z q
  have b1 : ka.Sq g1 l1 xs := Kd.sq_at q1 fun o q => e1.extBut _ _ D.l1z q
  show wpAny _ _ (Builtin.SmallTypes.nextOf (.ref i1) >>= _) _ _ _
  refine wpAny_bind (nx_item a1 b1 hx fun g2 a2 e2 => wpAny_pure (wpAny_pure ?_))
  dsimp only
  refine wpAny_bind (wpAny_bind (wpAny_holding ?_))
  have a3 : kb.It g2 i2 l2 m := Kd.it_at h2 fun o q => e2.extBut _ _ D.i12.symm (e1.extBut _ _ D.i2z q)
  have b3 : kb.Sq g2 l2 ys := Kd.sq_at q2 fun o q => e2.extBut _ _ D.l2i1 (e1.extBut _ _ D.l2z q)
  show wpAny _ _ (Builtin.SmallTypes.nextOf (.ref i2) >>= _) _ _ _
  refine wpAny_bind (nx_item a3 b3 hy fun g3 a4 e3 => wpAny_pure (wpAny_pure (wpAny_pure ?_)))
  have sz : g3.objs.size = s.heap.objs.size := e3.1.trans (e2.1.trans e1.1)
  have kp : ∀ c o, c ≠ z → c ≠ i1 → c ≠ i2 → s.heap.get? c = some o → g3.get? c = some o := fun c o c1 c2 c3 q => e3.extBut _ _ c3 (e2.extBut _ _ c2 (e1.extBut _ _ c1 q))
  have z3 : Zo g3 z TI TO (rawInt T0) true := e3.extBut _ _ D.i2z.symm (e2.extBut _ _ D.i1z.symm z1)
  show wpAny _ _ (newTuple [x, y] >>= _) _ _ _
  refine wpAny_bind (wpAny_newTuple (wpAny_pure ⟨_, rfl, ?_⟩))
  dsimp only
  rw [sz]
  refine hQ _ (Heap.get?_push_of_some _ z3) (Kd.it_at a2 fun o q => Heap.get?_push_of_some _ (e3.extBut _ _ D.i12 q)) (Kd.it_at a4 fun o q => Heap.get?_push_of_some _ q) ?_ (by rw [Heap.size_push, sz]) fun c o c1 c2 c3 q => Heap.get?_push_of_some _ (kp c o c1 c2 c3 q)
  rw [← sz]
  exact Heap.get?_push_size _ rfl
/-- one of the two is at its end, the own pair being held -/
theorem held_end {ka kb : Kd} {z TI TO i1 i2 l1 l2 T0 : Addr} {n m : Nat} {bb : Bool} {xs ys : Array Value} {o0 : Obj} {Q : PySem.Fin → Shared → Prop} (hh : A.handled = none) (D : ZipApart z TI TO i1 i2 l1 l2)
    (hz : Zo s.heap z TI TO (rawInt T0) bb) (h0 : s.heap.get? T0 = some o0) (hTI : IsPair s.heap TI (.ref i1) (.ref i2))
    (h1 : ka.It s.heap i1 l1 n) (h2 : kb.It s.heap i2 l2 m) (q1 : ka.Sq s.heap l1 xs) (q2 : kb.Sq s.heap l2 ys) (hend : xs[n]? = none ∨ ys[m]? = none)
    (hE : ∀ h' e, (∀ c o, c ≠ z → c ≠ i1 → c ≠ i2 → s.heap.get? c = some o → h'.get? c = some o) → (∃ o, h'.get? e = some o ∧ o.cls = .type "StopIteration") → E (.ref e) { s with heap := h' }) :
    wpAny (model prog w) A (Builtin.«zip.__next__» ⟨[.ref z], []⟩) Q E s := by
  show wpAny _ _ (field (.ref z) 2 >>= _) _ _ _
  refine wpAny_bind (wpAny_field hz rfl (x := .bool false) rfl ?_)
  show wpAny _ _ (field (.ref z) 3 >>= _) _ _ _
  refine wpAny_bind (wpAny_field hz rfl (x := .ref TI) rfl (wpAny_bind (wpAny_seqItems hTI rfl ?_)))
  show wpAny _ _ (Builtin.SmallTypes.ownedTupleIsFree (.ref z) >>= _) _ _ _
  refine wpAny_bind (not_free hz h0 fun g1 z1 e1 => ?_)
  rw [if_neg Bool.false_ne_true]
  dsimp only
  refine wpAny_bind ?_
  rw [← Array.forIn_toList]
  simp only [List.forIn_cons, List.forIn_nil]
  refine wpAny_bind (wpAny_bind (wpAny_holding ?_))
  have a1 : ka.It g1 i1 l1 n := Kd.it_at h1 fun o q => e1.extBut _ _ D.i1z q
  have b1 : ka.Sq g1 l1 xs := Kd.sq_at q1 fun o q => e1.extBut _ _ D.l1z q
  show wpAny _ _ (Builtin.SmallTypes.nextOf (.ref i1) >>= _) _ _ _
  cases hx : xs[n]? with
  | none => exact wpAny_bind (nx_end hh a1 b1 hx fun g2 e e2 he => hE g2 e (fun c o c1 c2 c3 q => e2 _ _ c2 (e1.extBut _ _ c1 q)) he)
  | some x =>
    have hy : ys[m]? = none := hend.resolve_left fun q => by rw [hx] at q; cases q
    refine wpAny_bind (nx_item a1 b1 hx fun g2 a2 e2 => wpAny_pure (wpAny_pure ?_))
    dsimp only
    refine wpAny_bind (wpAny_bind (wpAny_holding ?_))
    have a3 : kb.It g2 i2 l2 m := Kd.it_at h2 fun o q => e2.extBut _ _ D.i12.symm (e1.extBut _ _ D.i2z q)
    have b3 : kb.Sq g2 l2 ys := Kd.sq_at q2 fun o q => e2.extBut _ _ D.l2i1 (e1.extBut _ _ D.l2z q)
    show wpAny _ _ (Builtin.SmallTypes.nextOf (.ref i2) >>= _) _ _ _
    exact wpAny_bind (nx_end hh a3 b3 hy fun g3 e e3 he => hE g3 e (fun c o c1 c2 c3 q => e3 _ _ c3 (e2.extBut _ _ c2 (e1.extBut _ _ c1 q))) he)
/-- its own pair is free -/
theorem is_free {z TI TO : Addr} {Q : Bool → Shared → Prop} (hz : Zo s.heap z TI TO .none false) (hQ : Q true s) : wpAny (model prog w) A (Builtin.SmallTypes.ownedTupleIsFree (.ref z)) Q E s := by
  unfold Builtin.SmallTypes.ownedTupleIsFree
  exact wpAny_bind (wpAny_field hz rfl (x := .none) rfl (wpAny_pure hQ))
/-- its next pair, its own one being free -/
theorem free_item {ka kb : Kd} {z TI TO i1 i2 l1 l2 : Addr} {n m : Nat} {xs ys : Array Value} {x y p0 p1 : Value} {Q : Value → Shared → Prop} (D : ZipApart z TI TO i1 i2 l1 l2)
    (hz : Zo s.heap z TI TO .none false) (hTI : IsPair s.heap TI (.ref i1) (.ref i2)) (hTO : IsPair s.heap TO p0 p1)
    (h1 : ka.It s.heap i1 l1 n) (h2 : kb.It s.heap i2 l2 m) (q1 : ka.Sq s.heap l1 xs) (q2 : kb.Sq s.heap l2 ys) (hx : xs[n]? = some x) (hy : ys[m]? = some y)
    (hQ : ∀ h', Zo h' z TI TO (rawInt s.heap.objs.size) false → IsPair h' TO x y → ka.It h' i1 l1 (n + 1) → kb.It h' i2 l2 (m + 1) → IsPair h' s.heap.objs.size x y → h'.objs.size = s.heap.objs.size + 1 →
      (∀ c o, c ≠ z → c ≠ TO → c ≠ i1 → c ≠ i2 → s.heap.get? c = some o → h'.get? c = some o) → Q (.ref s.heap.objs.size) { s with heap := h' }) :
    wpAny (model prog w) A (Builtin.«zip.__next__» ⟨[.ref z], []⟩) (fun fin s' => ∃ v, fin = .done (.ret v) ∧ Q v s') E s := by
  show wpAny _ _ (field (.ref z) 2 >>= _) _ _ _
  refine wpAny_bind (wpAny_field hz rfl (x := .bool false) rfl ?_)
  show wpAny _ _ (field (.ref z) 3 >>= _) _ _ _
  refine wpAny_bind (wpAny_field hz rfl (x := .ref TI) rfl (wpAny_bind (wpAny_seqItems hTI rfl ?_)))
  show wpAny _ _ (Builtin.SmallTypes.ownedTupleIsFree (.ref z) >>= _) _ _ _
  refine wpAny_bind (is_free hz ?_)
  rw [if_pos rfl]
  refine wpAny_bind (wpAny_rule (wpAny_bind (wpAny_field hz rfl (x := .ref TO) rfl (wpAny_bind (wpAny_setField_rec hz (by simp) fun g1 z1 e1 => ?_)))))
  have z1 : Zo g1 z TI TO .ellipsis false := z1
  refine wpAny_bind ?_
  simp only [List.zipIdx_cons, List.zipIdx_nil, List.forIn_cons, List.forIn_nil]
  refine wpAny_bind (wpAny_bind (wpAny_onRaise ?_))
  have a1 : ka.It g1 i1 l1 n := Kd.it_at h1 fun o q => e1.extBut _ _ D.i1z q
  have b1 : ka.Sq g1 l1 xs := Kd.sq_at q1 fun o q => e1.extBut _ _ D.l1z q
  show wpAny _ _ (Builtin.SmallTypes.nextOf (.ref i1) >>= _) _ _ _
  refine wpAny_bind (nx_item a1 b1 hx fun g2 a2 e2 => wpAny_pure ?_)
  have t2 : IsPair g2 TO p0 p1 := e2.extBut _ _ D.TOi1 (e1.extBut _ _ D.TOz hTO)
  refine wpAny_bind (wpAny_seqItems t2 rfl (wpAny_bind (wpAny_updateSeq_pair t2 fun g3 t3 e3 => wpAny_bind (wpAny_letGo (wpAny_pure ?_)))))
  have t3 : IsPair g3 TO x p1 := t3
  refine wpAny_bind (wpAny_bind (wpAny_onRaise ?_))
  have a3 : kb.It g3 i2 l2 m := Kd.it_at h2 fun o q => e3.extBut _ _ D.TOi2.symm (e2.extBut _ _ D.i12.symm (e1.extBut _ _ D.i2z q))
  have b3 : kb.Sq g3 l2 ys := Kd.sq_at q2 fun o q => e3.extBut _ _ D.l2TO (e2.extBut _ _ D.l2i1 (e1.extBut _ _ D.l2z q))
  show wpAny _ _ (Builtin.SmallTypes.nextOf (.ref i2) >>= _) _ _ _
  refine wpAny_bind (nx_item a3 b3 hy fun g4 a4 e4 => wpAny_pure ?_)
  have t4 : IsPair g4 TO x p1 := e4.extBut _ _ D.TOi2 t3
  refine wpAny_bind (wpAny_seqItems t4 rfl (wpAny_bind (wpAny_updateSeq_pair t4 fun g5 t5 e5 => wpAny_bind (wpAny_letGo (wpAny_pure (wpAny_pure ?_))))))
  have t5 : IsPair g5 TO x y := t5
  refine wpAny_bind (wpAny_seqItems t5 rfl (wpAny_bind (wpAny_newTuple ?_)))
  have sz : g5.objs.size = s.heap.objs.size := e5.1.trans (e4.1.trans (e3.1.trans (e2.1.trans e1.1)))
  have z5 : Zo g5 z TI TO .ellipsis false := e5.extBut _ _ D.TOz.symm (e4.extBut _ _ D.i2z.symm (e3.extBut _ _ D.TOz.symm (e2.extBut _ _ D.i1z.symm z1)))
  have kp : ∀ c o, c ≠ z → c ≠ TO → c ≠ i1 → c ≠ i2 → s.heap.get? c = some o → g5.get? c = some o := fun c o c1 c2 c3 c4 q =>
    e5.extBut _ _ c2 (e4.extBut _ _ c4 (e3.extBut _ _ c2 (e2.extBut _ _ c3 (e1.extBut _ _ c1 q))))
  have k1 : ka.It g5 i1 l1 (n + 1) := Kd.it_at a2 fun o q => e5.extBut _ _ D.TOi1.symm (e4.extBut _ _ D.i12 (e3.extBut _ _ D.TOi1.symm q))
  have k2 : kb.It g5 i2 l2 (m + 1) := Kd.it_at a4 fun o q => e5.extBut _ _ D.TOi2.symm q
  have zl : z < g5.objs.size := Heap.lt_size z5
  show wpAny _ _ (Builtin.SmallTypes.ownedTupleHandOut (.ref z) (.ref g5.objs.size) >>= _) _ _ _
  refine wpAny_bind ?_
  unfold Builtin.SmallTypes.ownedTupleHandOut
  have z6 : Zo (g5.push { cls := .type "tuple", data := .seq #[x, y] }) z TI TO .ellipsis false := Heap.get?_push_of_some _ z5
  refine wpAny_bind (wpAny_setField_rec z6 (by simp) fun g7 z7 e7 => wpAny_setField_rec (show Zo g7 z TI TO (rawInt g5.objs.size) false from z7) (by simp) fun g8 z8 e8 => wpAny_pure ⟨_, rfl, ?_⟩)
  have up : ∀ c o, c ≠ z → g5.get? c = some o → g8.get? c = some o := fun c o c1 q => e8.extBut _ _ c1 (e7.extBut _ _ c1 (Heap.get?_push_of_some _ q))
  have t8 : IsPair g8 g5.objs.size x y := e8.extBut _ _ (Nat.ne_of_gt zl) (e7.extBut _ _ (Nat.ne_of_gt zl) (Heap.get?_push_size _ rfl))
  have s8 : g8.objs.size = g5.objs.size + 1 := by rw [e8.1, e7.1, Heap.size_push]
  have z8 : Zo g8 z TI TO (rawInt g5.objs.size) false := z8
  show Q (.ref g5.objs.size) _
  rw [sz] at z8 t8 s8 ⊢
  exact hQ g8 z8 (up _ _ D.TOz t5) (Kd.it_at k1 fun o q => up _ o D.i1z q) (Kd.it_at k2 fun o q => up _ o D.i2z q) t8 s8 fun c o c1 c2 c3 c4 q => up c o c1 (kp c o c1 c2 c3 c4 q)
theorem free_end {ka kb : Kd} {z TI TO i1 i2 l1 l2 : Addr} {n m : Nat} {xs ys : Array Value} {p0 p1 : Value} {Q : PySem.Fin → Shared → Prop} (hh : A.handled = none) (D : ZipApart z TI TO i1 i2 l1 l2)
    (hz : Zo s.heap z TI TO .none false) (hTI : IsPair s.heap TI (.ref i1) (.ref i2)) (hTO : IsPair s.heap TO p0 p1)
    (h1 : ka.It s.heap i1 l1 n) (h2 : kb.It s.heap i2 l2 m) (q1 : ka.Sq s.heap l1 xs) (q2 : kb.Sq s.heap l2 ys) (hend : xs[n]? = none ∨ ys[m]? = none)
    (hE : ∀ h' e, (∀ c o, c ≠ z → c ≠ TO → c ≠ i1 → c ≠ i2 → s.heap.get? c = some o → h'.get? c = some o) → (∃ o, h'.get? e = some o ∧ o.cls = .type "StopIteration") → E (.ref e) { s with heap := h' }) :
    wpAny (model prog w) A (Builtin.«zip.__next__» ⟨[.ref z], []⟩) Q E s := by
  show wpAny _ _ (field (.ref z) 2 >>= _) _ _ _
  refine wpAny_bind (wpAny_field hz rfl (x := .bool false) rfl ?_)
  show wpAny _ _ (field (.ref z) 3 >>= _) _ _ _
  refine wpAny_bind (wpAny_field hz rfl (x := .ref TI) rfl (wpAny_bind (wpAny_seqItems hTI rfl ?_)))
  show wpAny _ _ (Builtin.SmallTypes.ownedTupleIsFree (.ref z) >>= _) _ _ _
  refine wpAny_bind (is_free hz ?_)
  rw [if_pos rfl]
  refine wpAny_bind (wpAny_rule (wpAny_bind (wpAny_field hz rfl (x := .ref TO) rfl (wpAny_bind (wpAny_setField_rec hz (by simp) fun g1 z1 e1 => ?_)))))
  have z1 : Zo g1 z TI TO .ellipsis false := z1
  refine wpAny_bind ?_
  simp only [List.zipIdx_cons, List.zipIdx_nil, List.forIn_cons, List.forIn_nil]
  refine wpAny_bind (wpAny_bind (wpAny_onRaise ?_))
  have a1 : ka.It g1 i1 l1 n := Kd.it_at h1 fun o q => e1.extBut _ _ D.i1z q
  have b1 : ka.Sq g1 l1 xs := Kd.sq_at q1 fun o q => e1.extBut _ _ D.l1z q
  show wpAny _ _ (Builtin.SmallTypes.nextOf (.ref i1) >>= _) _ _ _
  cases hx : xs[n]? with
  | none =>
    refine wpAny_bind (nx_end hh a1 b1 hx fun g2 e e2 ⟨oe, he, hc⟩ => ?_)
    have z2 : Zo g2 z TI TO .ellipsis false := e2 _ _ D.i1z.symm z1
    have ne : e ≠ z := fun q => by rw [q, z2] at he; cases he; simp at hc
    exact wpAny_setField_rec z2 (by simp) fun g3 _ e3 => hE g3 e (fun c o c1 _ c3 _ q => e3.extBut _ _ c1 (e2 _ _ c3 (e1.extBut _ _ c1 q))) ⟨oe, e3.extBut _ _ ne he, hc⟩
  | some x =>
    have hy : ys[m]? = none := hend.resolve_left fun q => by rw [hx] at q; cases q
    refine wpAny_bind (nx_item a1 b1 hx fun g2 a2 e2 => wpAny_pure ?_)
    have t2 : IsPair g2 TO p0 p1 := e2.extBut _ _ D.TOi1 (e1.extBut _ _ D.TOz hTO)
    refine wpAny_bind (wpAny_seqItems t2 rfl (wpAny_bind (wpAny_updateSeq_pair t2 fun g3 t3 e3 => wpAny_bind (wpAny_letGo (wpAny_pure ?_)))))
    refine wpAny_bind (wpAny_bind (wpAny_onRaise ?_))
    have a3 : kb.It g3 i2 l2 m := Kd.it_at h2 fun o q => e3.extBut _ _ D.TOi2.symm (e2.extBut _ _ D.i12.symm (e1.extBut _ _ D.i2z q))
    have b3 : kb.Sq g3 l2 ys := Kd.sq_at q2 fun o q => e3.extBut _ _ D.l2TO (e2.extBut _ _ D.l2i1 (e1.extBut _ _ D.l2z q))
    show wpAny _ _ (Builtin.SmallTypes.nextOf (.ref i2) >>= _) _ _ _
    refine wpAny_bind (nx_end hh a3 b3 hy fun g4 e e4 ⟨oe, he, hc⟩ => ?_)
    have z4 : Zo g4 z TI TO .ellipsis false := e4 _ _ D.i2z.symm (e3.extBut _ _ D.TOz.symm (e2.extBut _ _ D.i1z.symm z1))
    have ne : e ≠ z := fun q => by rw [q, z4] at he; cases he; simp at hc
    exact wpAny_setField_rec z4 (by simp) fun g5 _ e5 => hE g5 e (fun c o c1 c2 c3 c4 q => e5.extBut _ _ c1 (e4 _ _ c4 (e3.extBut _ _ c2 (e2.extBut _ _ c3 (e1.extBut _ _ c1 q))))) ⟨oe, e5.extBut _ _ ne he, hc⟩
end
end PKZ
namespace PKZ
open PySem PySem.Spec PyProof.Rows L2
/-- the pairs that were drawn, at their places -/
structure Prs (xs ys : Array Value) (lo : Addr) (h : Heap) (as : List Addr) : Prop where
  rise : as.Pairwise (· < ·)
  above : ∀ a ∈ as, lo ≤ a
  there : ∀ a ∈ as, a < h.objs.size
  at_ : ∀ (j : Nat) (a : Addr), as[j]? = some a → ∃ x y, xs[j]? = some x ∧ ys[j]? = some y ∧ IsPair h a x y
/-- a zip of two, i pairs drawn -/
structure ZSt (ka kb : Kd) (z TI TO i1 i2 l1 l2 : Addr) (xs ys : Array Value) (i : Nat) (h : Heap) : Prop where
  ti : IsPair h TI (.ref i1) (.ref i2)
  to : ∃ a b, IsPair h TO a b
  it1 : ka.It h i1 l1 i
  it2 : kb.It h i2 l2 i
  sq1 : ka.Sq h l1 xs
  sq2 : kb.Sq h l2 ys
  zo : Zo h z TI TO .none false ∨ ∃ (T0 : Addr) (o0 : Obj) (bb : Bool), Zo h z TI TO (rawInt T0) bb ∧ h.get? T0 = some o0 ∧ T0 ≠ z ∧ T0 ≠ TO ∧ T0 ≠ i1 ∧ T0 ≠ i2
section
variable {prog : Program} {w : World} {A : Around} {E : Value → Shared → Prop} {s : Shared} {ka kb : Kd} {z TI TO i1 i2 l1 l2 : Addr} {xs ys : Array Value} {i : Nat}
theorem ZSt.zip {h : Heap} (Z : ZSt ka kb z TI TO i1 i2 l1 l2 xs ys i h) : ∃ o, h.get? z = some o ∧ o.cls = .type "zip" := by
  rcases Z.zo with q | ⟨T0, o0, bb, q, _⟩
  · exact ⟨_, q, rfl⟩
  · exact ⟨_, q, rfl⟩
theorem ZSt.type {h : Heap} (Z : ZSt ka kb z TI TO i1 i2 l1 l2 xs ys i h) {s : Shared} (e : s.heap = h) : s.TypeIs (.ref z) "zip" := by
  obtain ⟨o, q, c⟩ := Z.zip
  exact ⟨o, by rw [e]; exact q, c⟩
theorem ZSt.keep {h h' : Heap} (Z : ZSt ka kb z TI TO i1 i2 l1 l2 xs ys i h) {S : Addr} (hS : S ≠ z ∧ S ≠ TI ∧ S ≠ TO ∧ S ≠ i1 ∧ S ≠ i2 ∧ S ≠ l1 ∧ S ≠ l2) (k : ∀ b o, b ≠ S → h.get? b = some o → h'.get? b = some o) (kS : ∀ o, h.get? S = some o → ∃ o', h'.get? S = some o') :
    ZSt ka kb z TI TO i1 i2 l1 l2 xs ys i h' := by
  obtain ⟨a, b, c, d, e, f, g⟩ := hS
  refine ⟨k _ _ b.symm Z.ti, ?_, Kd.it_at Z.it1 fun o q => k _ _ d.symm q, Kd.it_at Z.it2 fun o q => k _ _ e.symm q, Kd.sq_at Z.sq1 fun o q => k _ _ f.symm q, Kd.sq_at Z.sq2 fun o q => k _ _ g.symm q, ?_⟩
  · obtain ⟨u, v, q⟩ := Z.to
    exact ⟨u, v, k _ _ c.symm q⟩
  · rcases Z.zo with q | ⟨T0, o0, bb, q, q0, n1⟩
    · exact .inl (k _ _ a.symm q)
    · by_cases e0 : T0 = S
      · subst e0
        obtain ⟨o', q'⟩ := kS _ q0
        exact .inr ⟨T0, o', bb, k _ _ a.symm q, q', n1⟩
      · exact .inr ⟨T0, o0, bb, k _ _ a.symm q, k _ _ e0 q0, n1⟩
/-- a pair is drawn -/
theorem zst_item {x y : Value} {Q : Option Value → Shared → Prop} (D : ZipApart z TI TO i1 i2 l1 l2) (Z : ZSt ka kb z TI TO i1 i2 l1 l2 xs ys i s.heap) (hx : xs[i]? = some x) (hy : ys[i]? = some y)
    (hQ : ∀ h', ZSt ka kb z TI TO i1 i2 l1 l2 xs ys (i + 1) h' → IsPair h' s.heap.objs.size x y → h'.objs.size = s.heap.objs.size + 1 →
      (∀ c o, c ≠ z → c ≠ TO → c ≠ i1 → c ≠ i2 → s.heap.get? c = some o → h'.get? c = some o) → Q (some (.ref s.heap.objs.size)) { s with heap := h' }) :
    wpAny (model prog w) A (pyNext (.ref z)) Q E s := by
  have hT := Z.type (s := s) rfl
  obtain ⟨u, v, hTO⟩ := Z.to
  have zl : z < s.heap.objs.size := by obtain ⟨o, q, _⟩ := Z.zip; exact Heap.lt_size q
  have TOl : TO < s.heap.objs.size := Heap.lt_size hTO
  have i1l : i1 < s.heap.objs.size := by obtain ⟨o, q, _⟩ := Kd.it_get Z.it1; exact Heap.lt_size q
  have i2l : i2 < s.heap.objs.size := by obtain ⟨o, q, _⟩ := Kd.it_get Z.it2; exact Heap.lt_size q
  unfold pyNext
  refine wpAny_bind (wpAny_attempt (wpAny_callSpecial?_slot (name := Str.ofString "__next__") hT F.slot_zip_next (wpAny_call_entry F.slot_zip_next hT F.entry_zip_next ?_ (F.args_zip_next_1 _))))
  rcases Z.zo with q | ⟨T0, o0, bb, q, q0, n1, n2, n3, n4⟩
  · exact free_item D q Z.ti hTO Z.it1 Z.it2 Z.sq1 Z.sq2 hx hy fun h' c1 c2 c3 c4 c5 c6 c7 => wpAny_pure (hQ h' ⟨c7 _ _ D.TIz D.TITO D.TIi1 D.TIi2 Z.ti, ⟨_, _, c2⟩, c3, c4, Kd.sq_at Z.sq1 fun o p => c7 _ _ D.l1z D.l1TO D.l1i1 D.l1i2 p, Kd.sq_at Z.sq2 fun o p => c7 _ _ D.l2z D.l2TO D.l2i1 D.l2i2 p,
      .inr ⟨_, _, _, c1, c5, Nat.ne_of_gt zl, Nat.ne_of_gt TOl, Nat.ne_of_gt i1l, Nat.ne_of_gt i2l⟩⟩ c5 c6 c7)
  · exact held_item D q q0 Z.ti Z.it1 Z.it2 Z.sq1 Z.sq2 hx hy fun h' c1 c3 c4 c5 c6 c7 => wpAny_pure (hQ h' ⟨c7 _ _ D.TIz D.TIi1 D.TIi2 Z.ti, ⟨_, _, c7 _ _ D.TOz D.TOi1 D.TOi2 hTO⟩, c3, c4, Kd.sq_at Z.sq1 fun o p => c7 _ _ D.l1z D.l1i1 D.l1i2 p, Kd.sq_at Z.sq2 fun o p => c7 _ _ D.l2z D.l2i1 D.l2i2 p,
      .inr ⟨T0, o0, true, c1, c7 _ _ n1 n3 n4 q0, n1, n2, n3, n4⟩⟩ c5 c6 fun c o d1 _ d3 d4 p => c7 c o d1 d3 d4 p)
/-- one of the two is at its end -/
theorem zst_done {Q : Option Value → Shared → Prop} (hh : A.handled = none) (D : ZipApart z TI TO i1 i2 l1 l2) (Z : ZSt ka kb z TI TO i1 i2 l1 l2 xs ys i s.heap) (hend : xs[i]? = none ∨ ys[i]? = none)
    (hQ : ∀ h', (∀ c o, c ≠ z → c ≠ TO → c ≠ i1 → c ≠ i2 → s.heap.get? c = some o → h'.get? c = some o) → Q none { s with heap := h' }) : wpAny (model prog w) A (pyNext (.ref z)) Q E s := by
  have hT := Z.type (s := s) rfl
  obtain ⟨u, v, hTO⟩ := Z.to
  have stop : ∀ h' e, (∀ c o, c ≠ z → c ≠ TO → c ≠ i1 → c ≠ i2 → s.heap.get? c = some o → h'.get? c = some o) → (∃ o, h'.get? e = some o ∧ o.cls = .type "StopIteration") →
      wpAny (model prog w) A (do if (← isInstance (.ref e) (.type "StopIteration")) = true then pure none else throw (.ref e)) Q E { s with heap := h' } := fun h' e k ⟨o, ho, hc⟩ =>
    wpAny_bind (wpAny_isInstance (T := "StopIteration") (b := true) ⟨o, ho, hc⟩ isSubtype_stop (wpAny_pure (hQ _ k)))
  unfold pyNext
  refine wpAny_bind (wpAny_attempt (wpAny_callSpecial?_slot (name := Str.ofString "__next__") hT F.slot_zip_next (wpAny_call_entry F.slot_zip_next hT F.entry_zip_next ?_ (F.args_zip_next_1 _))))
  rcases Z.zo with q | ⟨T0, o0, bb, q, q0, n1, n2, n3, n4⟩
  · exact free_end hh D q Z.ti hTO Z.it1 Z.it2 Z.sq1 Z.sq2 hend stop
  · exact held_end hh D q q0 Z.ti Z.it1 Z.it2 Z.sq1 Z.sq2 hend fun h' e k => stop h' e fun c o d1 _ d3 d4 p => k c o d1 d3 d4 p
theorem zl_loop {S lo : Addr} (hh : A.handled = none) (D : ZipApart z TI TO i1 i2 l1 l2) (hS : S ≠ z ∧ S ≠ TI ∧ S ≠ TO ∧ S ≠ i1 ∧ S ≠ i2 ∧ S ≠ l1 ∧ S ≠ l2) (lowz : z < lo) (lowTO : TO < lo) (low1 : i1 < lo) (low2 : i2 < lo) (lowS : S < lo)
    (hn : min xs.size ys.size ≤ sizeLine) (res : Value) {h₁ : Heap} {R : Result → Shared → Prop}
    (hR : ∀ (h' : Heap) (acc : Array Value) (c : Nat) (as : List Addr), (∀ b o, b ≠ S → b ≠ z → b ≠ TO → b ≠ i1 → b ≠ i2 → h₁.get? b = some o → h'.get? b = some o) → h'.get? S = some { cls := .type "list", dict := none, data := .seq acc c, slots := #[] } → as.length = min xs.size ys.size → Prs xs ys lo h' as →
      acc.toList = as.map Value.ref → R (.ok (.ret res)) { s with heap := h' }) :
    ∀ (k i : Nat) (h : Heap) (c : Nat) (acc : Array Value) (as : List Addr), min xs.size ys.size - i = k → i ≤ min xs.size ys.size → ZSt ka kb z TI TO i1 i2 l1 l2 xs ys i h → (∀ b o, b ≠ S → b ≠ z → b ≠ TO → b ≠ i1 → b ≠ i2 → h₁.get? b = some o → h.get? b = some o) →
      h.get? S = some { cls := .type "list", dict := none, data := .seq acc c, slots := #[] } → acc.toList = as.map Value.ref → as.length = i → Prs xs ys lo h as → lo ≤ h.objs.size →
      codeAny (model prog w) A (.builtin "list.extend.loop" ⟨[.ref S, .ref z, res], []⟩) R { s with heap := h } := by
  intro k
  induction k with
  | zero =>
    intro i h c acc as hk hi Z kp hSo ha hl G hlo
    have hin : i = min xs.size ys.size := by omega
    refine codeAny_builtin F.entry_extend_loop ?_
    (rw [Around.under_plainId F.plain_extend_loop])
    show wpAny _ A.in1 (pyNext (.ref z) >>= _) _ _ _
    have hend : xs[i]? = none ∨ ys[i]? = none := by
      rcases Nat.le_total xs.size ys.size with q | q
      · exact .inl (Array.getElem?_eq_none (by omega))
      · exact .inr (Array.getElem?_eq_none (by omega))
    refine wpAny_bind (zst_done (s := { s with heap := h }) (A := A.in1) hh D Z hend fun h' e => wpAny_pure (hR h' acc c as (fun b o b1 b2 b3 b4 b5 q => e b o b2 b3 b4 b5 (kp b o b1 b2 b3 b4 b5 q)) (e S _ hS.1 hS.2.2.1 hS.2.2.2.1 hS.2.2.2.2.1 hSo) (by omega) ⟨G.rise, G.above, fun a q => ?_, fun j a q => ?_⟩ ha))
    · obtain ⟨j, hj, rfl⟩ := List.getElem_of_mem q
      obtain ⟨x, y, _, _, p⟩ := G.at_ j _ (List.getElem?_eq_getElem hj)
      have lo_a := G.above _ (List.getElem_mem hj)
      exact Heap.lt_size (e _ _ (Nat.ne_of_gt (Nat.lt_of_lt_of_le lowz lo_a)) (Nat.ne_of_gt (Nat.lt_of_lt_of_le lowTO lo_a)) (Nat.ne_of_gt (Nat.lt_of_lt_of_le low1 lo_a)) (Nat.ne_of_gt (Nat.lt_of_lt_of_le low2 lo_a)) p)
    · obtain ⟨x, y, e1, e2, p⟩ := G.at_ j a q
      have lo_a := G.above _ (List.mem_of_getElem? q)
      exact ⟨x, y, e1, e2, e _ _ (Nat.ne_of_gt (Nat.lt_of_lt_of_le lowz lo_a)) (Nat.ne_of_gt (Nat.lt_of_lt_of_le lowTO lo_a)) (Nat.ne_of_gt (Nat.lt_of_lt_of_le low1 lo_a)) (Nat.ne_of_gt (Nat.lt_of_lt_of_le low2 lo_a)) p⟩
  | succ k ih =>
    intro i h c acc as hk hi Z kp hSo ha hl G hlo
    have ix : i < xs.size := by omega
    have iy : i < ys.size := by omega
    have hsz : acc.size = i := by rw [← Array.length_toList, ha, List.length_map, hl]
    refine codeAny_builtin F.entry_extend_loop ?_
    (rw [Around.under_plainId F.plain_extend_loop])
    show wpAny _ A.in1 (pyNext (.ref z) >>= _) _ _ _
    refine wpAny_bind (zst_item (s := { s with heap := h }) (A := A.in1) D Z (Array.getElem?_eq_getElem ix) (Array.getElem?_eq_getElem iy) fun h' Z' p sz e => ?_)
    dsimp only at p sz e ⊢
    have hS' := e S _ hS.1 hS.2.2.1 hS.2.2.2.1 hS.2.2.2.2.1 hSo
    have up : ∀ b o, b ≠ S → h'.get? b = some o → (h'.update S (Obj.mapSeq (·.push (Value.ref h.objs.size)))).get? b = some o := fun b o hb q => (Heap.get?_update_other _ _ (Ne.symm hb)).trans q
    have upS : ∀ o, h'.get? S = some o → ∃ o', (h'.update S (Obj.mapSeq (·.push (Value.ref h.objs.size)))).get? S = some o' := fun o q => ⟨_, Heap.get?_update_self _ hS' rfl⟩
    have Sl : S < h.objs.size := Heap.lt_size hSo
    have far : ∀ a, lo ≤ a → a ≠ z ∧ a ≠ TO ∧ a ≠ i1 ∧ a ≠ i2 ∧ a ≠ S := fun a q => ⟨Nat.ne_of_gt (Nat.lt_of_lt_of_le lowz q), Nat.ne_of_gt (Nat.lt_of_lt_of_le lowTO q), Nat.ne_of_gt (Nat.lt_of_lt_of_le low1 q), Nat.ne_of_gt (Nat.lt_of_lt_of_le low2 q), Nat.ne_of_gt (Nat.lt_of_lt_of_le lowS q)⟩
    have us : (h'.update S (Obj.mapSeq (·.push (Value.ref h.objs.size)))).objs.size = h'.objs.size := Heap.size_update ..
    show wpAny _ A.in1 (updateSeq S (·.push (Value.ref h.objs.size)) >>= _) _ _ _
    refine wpAny_bind (wpAny_updateSeq hS' rfl (wpAny_pure ⟨plainId_quiet F.plain_extend_loop _, ih (i + 1) _ _ (acc.push (Value.ref h.objs.size)) (as ++ [h.objs.size]) (by omega) (by omega) (Z'.keep hS up upS) (fun b o b1 b2 b3 b4 b5 q => up b o b1 (e b o b2 b3 b4 b5 (kp b o b1 b2 b3 b4 b5 q)))
      (Heap.get?_update_self _ hS' rfl) (by rw [Array.toList_push, ha, List.map_append]; rfl) (by rw [List.length_append, hl]; rfl) ⟨?_, ?_, ?_, ?_⟩ ?_⟩) ?_)
    · refine List.pairwise_append.mpr ⟨G.rise, List.pairwise_singleton _ _, fun a q b q2 => ?_⟩
      rw [List.mem_singleton.mp q2]
      exact G.there a q
    · intro a q
      rcases List.mem_append.mp q with q | q
      · exact G.above a q
      · rw [List.mem_singleton.mp q]; exact hlo
    · intro a q
      rw [us, sz]
      rcases List.mem_append.mp q with q | q
      · exact Nat.lt_succ_of_lt (G.there a q)
      · rw [List.mem_singleton.mp q]; exact Nat.lt_succ_self _
    · intro j b q
      by_cases hj : j < as.length
      · rw [List.getElem?_append_left hj] at q
        obtain ⟨x, y, e1, e2, e3⟩ := G.at_ j b q
        obtain ⟨f1, f2, f3, f4, f5⟩ := far b (G.above b (List.mem_of_getElem? q))
        exact ⟨x, y, e1, e2, up b _ f5 (e b _ f1 f2 f3 f4 e3)⟩
      · have hj2 : j = as.length := by
          have := (List.getElem?_eq_some_iff.mp q).1
          rw [List.length_append] at this
          have : j < as.length + 1 := this
          omega
        subst hj2
        have : h.objs.size = b := by simpa using q
        subst this
        exact ⟨xs[i], ys[i], by rw [hl]; exact Array.getElem?_eq_getElem ix, by rw [hl]; exact Array.getElem?_eq_getElem iy, up _ _ (Nat.ne_of_gt Sl) p⟩
    · rw [us, sz]; exact Nat.le_succ_of_le hlo
    · rw [hsz]; omega
theorem zip_nolen : typeLookup (.type "zip") "__len__" = pure none := by
  rw [typeLookup_type, builtinLookup_eq_fast]; kernel_rfl
theorem zip_nohint : typeLookup (.type "zip") "__length_hint__" = pure none := by
  rw [typeLookup_type, builtinLookup_eq_fast]; kernel_rfl
/-- list(zip(..)), S the new list -/
theorem zl_call {Q : Value → Shared → Prop} (hh : A.handled = none) (D : ZipApart z TI TO i1 i2 l1 l2) (Z : ZSt ka kb z TI TO i1 i2 l1 l2 xs ys 0 s.heap) (lTI : TI < s.heap.objs.size) (l1l : l1 < s.heap.objs.size) (l2l : l2 < s.heap.objs.size)
    (hn : min xs.size ys.size ≤ sizeLine)
    (hQ : ∀ (h' : Heap) (acc : Array Value) (c : Nat) (as : List Addr), (∀ b o, b ≠ z → b ≠ TO → b ≠ i1 → b ≠ i2 → s.heap.get? b = some o → h'.get? b = some o) → h'.get? s.heap.objs.size = some { cls := .type "list", dict := none, data := .seq acc c, slots := #[] } →
      as.length = min xs.size ys.size → Prs xs ys (s.heap.objs.size + 1) h' as → acc.toList = as.map Value.ref → Q (.ref s.heap.objs.size) { s with heap := h' }) :
    wpAny (model prog w) A (call (.type "list") [.ref z]) Q E s := by
  have zl : z < s.heap.objs.size := by obtain ⟨o, q, _⟩ := Z.zip; exact Heap.lt_size q
  have TOl : TO < s.heap.objs.size := by obtain ⟨_, _, q⟩ := Z.to; exact Heap.lt_size q
  have i1l : i1 < s.heap.objs.size := by obtain ⟨o, q, _⟩ := Kd.it_get Z.it1; exact Heap.lt_size q
  have i2l : i2 < s.heap.objs.size := by obtain ⟨o, q, _⟩ := Kd.it_get Z.it2; exact Heap.lt_size q
  refine callType_codes (Q₁ := fun obj s₁ => obj = .ref s.heap.objs.size ∧ s₁ = { s with heap := s.heap.push { cls := .type "list", data := .seq #[] } }) F.called_list (F.typeCall_list_1 _) F.entry_list_init (code_list_new _ ⟨rfl, rfl⟩) fun obj s₁ h₁ => ?_
  obtain ⟨rfl, rfl⟩ := h₁
  have hS0 : (s.heap.push { cls := .type "list", data := .seq #[] }).get? s.heap.objs.size = some { cls := .type "list", data := .seq #[] } := Heap.get?_push_size _ rfl
  have hS : s.heap.objs.size ≠ z ∧ s.heap.objs.size ≠ TI ∧ s.heap.objs.size ≠ TO ∧ s.heap.objs.size ≠ i1 ∧ s.heap.objs.size ≠ i2 ∧ s.heap.objs.size ≠ l1 ∧ s.heap.objs.size ≠ l2 :=
    ⟨Nat.ne_of_gt zl, Nat.ne_of_gt lTI, Nat.ne_of_gt TOl, Nat.ne_of_gt i1l, Nat.ne_of_gt i2l, Nat.ne_of_gt l1l, Nat.ne_of_gt l2l⟩
  refine ⟨⟨_, hS0, rfl⟩, F.args_list_init_2 _ _, ?_⟩
  generalize hs : s.heap.objs.size = S at hS0 hS hQ ⊢
  show wpAny _ _ (do let old ← Builtin.List.listItems (.ref S); Builtin.List.listUpdate (.ref S) (fun _ => #[]); letGo old.toList.reverse; Builtin.List.listExtendWith (.ref S) (.ref z) .none) _ _ _
  unfold Builtin.List.listItems
  refine wpAny_bind (wpAny_bind (wpAny_seqItems hS0 rfl (wpAny_pure ?_)))
  show wpAny _ _ (updateSeq S (fun _ => #[]) >>= fun _ => letGo (#[] : Array Value).toList.reverse >>= fun _ => Builtin.List.listExtendWith (.ref S) (.ref z) .none) _ _ _
  refine wpAny_bind (wpAny_updateSeq hS0 rfl (wpAny_bind (wpAny_letGo ?_)))
  have hS1 := Heap.get?_update_self (Obj.mapSeq (fun _ => (#[] : Array Value))) hS0 rfl
  have up1 : ∀ b o, b ≠ S → (s.heap.push { cls := .type "list", data := .seq #[] }).get? b = some o → ((s.heap.push { cls := .type "list", data := .seq #[] }).update S (Obj.mapSeq (fun _ => (#[] : Array Value)))).get? b = some o := fun b o hb q => (Heap.get?_update_other _ _ (Ne.symm hb)).trans q
  have Z1 : ZSt ka kb z TI TO i1 i2 l1 l2 xs ys 0 (s.heap.push { cls := .type "list", data := .seq #[] }) := Z.keep hS (fun b o _ q => Heap.get?_push_of_some _ q) fun o q => ⟨_, hS0⟩
  have Z2 := Z1.keep hS up1 fun o q => ⟨_, hS1⟩
  have base : ∀ b o, b ≠ S → b ≠ z → b ≠ TO → b ≠ i1 → b ≠ i2 → s.heap.get? b = some o → ((s.heap.push { cls := .type "list", data := .seq #[] }).update S (Obj.mapSeq (fun _ => (#[] : Array Value)))).get? b = some o := fun b o b1 _ _ _ _ q => up1 b o b1 (Heap.get?_push_of_some _ q)
  have sz1 : ((s.heap.push { cls := .type "list", data := .seq #[] }).update S (Obj.mapSeq (fun _ => (#[] : Array Value)))).objs.size = S + 1 := by rw [Heap.size_update, Heap.size_push, hs]
  generalize (s.heap.push { cls := .type "list", data := .seq #[] }).update S (Obj.mapSeq (fun _ => (#[] : Array Value))) = g at Z2 hS1 base sz1 ⊢
  unfold Builtin.List.listExtendWith
  refine wpAny_bind (wpAny_typeOf (T := "zip") (Z2.type rfl) ?_)
  have n1 : Builtin.List.listSameRef (.ref S) (.ref z) = false := by simp [Builtin.List.listSameRef, hS.1]
  have n2 : (Value.type "zip" == Value.type "list") = false := by decide
  have n3 : (Value.type "zip" == Value.type "tuple") = false := by decide
  simp only [n1, n2, n3, Bool.or_false, Bool.false_eq_true, if_false]
  have itr : ∀ {M : Around} {E' : Value → Shared → Prop} {Q' : Value → Shared → Prop} {s' : Shared}, s'.heap = g → Q' (.ref z) s' → wpAny (model prog w) M (pyIter (.ref z)) Q' E' s' := fun {M E' Q' s'} e q => by
    refine wpAny_pyIter_slot (Z2.type e) F.slot_zip_iter (wpAny_call_entry F.slot_zip_iter (Z2.type e) F.entry_zip_iter ?_ (F.args_zip_iter_1 _))
    show wpAny _ _ (ret (.ref z)) _ _ s'
    exact wpAny_pure ⟨_, rfl, "zip", _, Z2.type e, F.slot_zip_next.lookup, q⟩
  refine wpAny_bind (itr rfl (wpAny_bind (wpAny_holding ?_)))
  unfold Builtin.List.listLengthHint
  refine wpAny_bind (wpAny_specialOf (Z2.type rfl) zip_nolen ?_)
  show wpAny _ _ (specialOf (Value.ref z) (Str.ofString "__length_hint__") >>= _) _ _ _
  refine wpAny_bind (wpAny_specialOf (Z2.type rfl) zip_nohint (wpAny_pure ?_))
  rw [Bool.true_or, if_pos rfl]
  refine wpAny_bind (wpAny_rule (wpAny_bind ?_))
  show wpAny _ _ (updateSeq S (·.push .none) >>= fun _ => updateSeq S (·.pop)) _ _ _
  have hS2 := Heap.get?_update_self (Obj.mapSeq (·.push Value.none)) hS1 rfl
  refine wpAny_bind (wpAny_updateSeq hS1 rfl (wpAny_updateSeq (hz := by seq_fits) hS2 rfl ?_))
  have hS3 := Heap.get?_update_self (Obj.mapSeq (·.pop)) hS2 rfl
  have up3 : ∀ b o, b ≠ S → g.get? b = some o → ((g.update S (Obj.mapSeq (·.push Value.none))).update S (Obj.mapSeq (·.pop))).get? b = some o := fun b o hb q => (Heap.get?_update_other _ _ (Ne.symm hb)).trans ((Heap.get?_update_other _ _ (Ne.symm hb)).trans q)
  have sz3 : ((g.update S (Obj.mapSeq (·.push Value.none))).update S (Obj.mapSeq (·.pop))).objs.size = S + 1 := by rw [Heap.size_update, Heap.size_update, sz1]
  refine wpAny_pure ⟨plainId_quiet F.plain_extend_loop _, ?_⟩
  refine zl_loop (A := A.in1) (s := s) (h₁ := s.heap) (lo := S + 1) hh D hS (Nat.lt_succ_of_lt (hs ▸ zl)) (Nat.lt_succ_of_lt (hs ▸ TOl)) (Nat.lt_succ_of_lt (hs ▸ i1l)) (Nat.lt_succ_of_lt (hs ▸ i2l)) (Nat.lt_succ_self _) hn .none (fun h' acc c as k1 k2 k3 k4 k5 => ⟨rfl, hQ h' acc c as (fun b o b2 b3 b4 b5 q => ?_) k2 k3 k4 k5⟩)
    _ 0 _ _ #[] [] rfl (Nat.zero_le _) (Z2.keep hS up3 fun o q => ⟨_, hS3⟩) (fun b o b1 b2 b3 b4 b5 q => up3 b o b1 (base b o b1 b2 b3 b4 b5 q)) hS3 rfl rfl ⟨List.Pairwise.nil, (fun _ q => nomatch q), (fun _ q => nomatch q), fun j a q => by simp at q⟩ (by rw [sz3]; exact Nat.le_refl _)
  have := Heap.lt_size q
  exact k1 b o (Nat.ne_of_lt (hs ▸ this)) b2 b3 b4 b5 q
end
end PKZ
namespace PKZ
open PySem PySem.Spec PyProof.Rows L2
def Kd.nm : Kd → String
  | .l => "list_iterator"
  | .t => "tuple_iterator"
abbrev itO (kd : Kd) (a : Addr) : Obj := { cls := .type kd.nm, data := .fields #[.ref a, .int 0 0] }
abbrev zg1 (ka : Kd) (h : Heap) (a : Addr) : Heap := h.push (itO ka a)
abbrev zg2 (ka kb : Kd) (h : Heap) (a b : Addr) : Heap := (zg1 ka h a).push (itO kb b)
abbrev zg3 (ka kb : Kd) (h : Heap) (a b : Addr) : Heap := (zg2 ka kb h a b).push { cls := .type "tuple", data := .seq #[.ref h.objs.size, .ref (zg1 ka h a).objs.size] }
abbrev zg4 (ka kb : Kd) (h : Heap) (a b : Addr) : Heap := (zg3 ka kb h a b).push { cls := .type "tuple", data := .seq #[.none, .none] }
abbrev zg5 (ka kb : Kd) (h : Heap) (a b : Addr) : Heap := (zg4 ka kb h a b).push { cls := .type "zip", data := .fields #[.none, .bool false, .bool false, .ref (zg2 ka kb h a b).objs.size, .ref (zg3 ka kb h a b).objs.size] }
theorem Kd.sq_push {kd : Kd} {h : Heap} {a : Addr} {xs : Array Value} {o : Obj} (q : kd.Sq h a xs) : kd.Sq (h.push o) a xs := Kd.sq_at q fun _ e => Heap.get?_push_of_some _ e
theorem Kd.sq_lt {kd : Kd} {h : Heap} {a : Addr} {xs : Array Value} (q : kd.Sq h a xs) : a < h.objs.size := by
  cases kd with
  | l => obtain ⟨o, e, _⟩ := q; exact Heap.lt_size e
  | t => obtain ⟨o, e, _⟩ := q; exact Heap.lt_size e
theorem pyIter_kd {prog : Program} {w : World} {A : Around} {E : Value → Shared → Prop} {s : Shared} {kd : Kd} {a : Addr} {xs : Array Value} {Q : Value → Shared → Prop} (q : kd.Sq s.heap a xs)
    (h : Q (.ref s.heap.objs.size) { s with heap := s.heap.push (itO kd a) }) : wpAny (model prog w) A (pyIter (.ref a)) Q E s := by
  cases kd with
  | l => exact wpAny_pyIter_list q h
  | t => exact wpAny_pyIter_tuple q h
theorem meets_zg (ka kb : Kd) (a b : Addr) (xs ys : Array Value) :
    Meets (Builtin.«zip.__new__» ⟨[.type "zip", .ref a, .ref b], []⟩) (fun _ R s => ka.Sq s.heap a xs ∧ kb.Sq s.heap b ys ∧ R (.ok (.ret (.ref (zg4 ka kb s.heap a b).objs.size))) { s with heap := zg5 ka kb s.heap a b }) :=
  .of_wp fun prog w A R s h => by
    obtain ⟨hp, g, d, tk, os⟩ := s
    obtain ⟨h1, h2, h⟩ := h
    have hsub := sub_zip
    have p1 : ka.Sq (Shared.heap ⟨hp, g, d, tk, os⟩) a xs := h1
    have p2 : kb.Sq (Shared.heap ⟨hp.push (itO ka a), g, d, tk, os⟩) b ys := Kd.sq_push h2
    wp_walk using pyIter_kd p1, pyIter_kd p2
    exact ⟨_, rfl, h⟩
section
variable {prog : Program} {w : World} {A : Around} {E : Value → Shared → Prop} {s : Shared}
/-- zip(a, b) -/
theorem call_zg {ka kb : Kd} {a b : Addr} {xs ys : Array Value} {Q : Value → Shared → Prop} (h1 : ka.Sq s.heap a xs) (h2 : kb.Sq s.heap b ys)
    (hQ : ∀ h', ZSt ka kb (s.heap.objs.size + 4) (s.heap.objs.size + 2) (s.heap.objs.size + 3) s.heap.objs.size (s.heap.objs.size + 1) a b xs ys 0 h' → Zo h' (s.heap.objs.size + 4) (s.heap.objs.size + 2) (s.heap.objs.size + 3) .none false → h'.objs.size = s.heap.objs.size + 5 →
      (∀ c o, s.heap.get? c = some o → h'.get? c = some o) → Q (.ref (s.heap.objs.size + 4)) { s with heap := h' }) :
    wpAny (model prog w) A (call (.type "zip") [.ref a, .ref b]) Q E s := by
  refine callType_new F.called_zip (by decide) (F.typeCall_zip_2 _ _) (F.newCall_zip_2 _ _) (fun obj => F.args_object_init_3 obj _ _) F.entry_zip_new (meets_zg ka kb a b xs ys) ⟨h1, h2, ?_⟩
  have z1 : (zg1 ka s.heap a).objs.size = s.heap.objs.size + 1 := Heap.size_push ..
  have z2 : (zg2 ka kb s.heap a b).objs.size = s.heap.objs.size + 2 := by rw [Heap.size_push, z1]
  have z3 : (zg3 ka kb s.heap a b).objs.size = s.heap.objs.size + 3 := by rw [Heap.size_push, z2]
  have z4 : (zg4 ka kb s.heap a b).objs.size = s.heap.objs.size + 4 := by rw [Heap.size_push, z3]
  have z5 : (zg5 ka kb s.heap a b).objs.size = s.heap.objs.size + 5 := by rw [Heap.size_push, z4]
  have kp : ∀ c o, s.heap.get? c = some o → (zg5 ka kb s.heap a b).get? c = some o := fun c o e =>
    Heap.get?_push_of_some _ (Heap.get?_push_of_some _ (Heap.get?_push_of_some _ (Heap.get?_push_of_some _ (Heap.get?_push_of_some _ e))))
  have o5 : (zg5 ka kb s.heap a b).get? (zg4 ka kb s.heap a b).objs.size = some _ := Heap.get?_push_size _ rfl
  have o4 : (zg5 ka kb s.heap a b).get? (zg3 ka kb s.heap a b).objs.size = some _ := Heap.get?_push_of_some _ (Heap.get?_push_size _ rfl)
  have o3 : (zg5 ka kb s.heap a b).get? (zg2 ka kb s.heap a b).objs.size = some _ := Heap.get?_push_of_some _ (Heap.get?_push_of_some _ (Heap.get?_push_size _ rfl))
  have o2 : (zg5 ka kb s.heap a b).get? (zg1 ka s.heap a).objs.size = some (itO kb b) := Heap.get?_push_of_some _ (Heap.get?_push_of_some _ (Heap.get?_push_of_some _ (Heap.get?_push_size _ rfl)))
  have o1 : (zg5 ka kb s.heap a b).get? s.heap.objs.size = some (itO ka a) := Heap.get?_push_of_some _ (Heap.get?_push_of_some _ (Heap.get?_push_of_some _ (Heap.get?_push_of_some _ (Heap.get?_push_size _ rfl))))
  have it : ∀ (kd : Kd) (i c : Addr), (zg5 ka kb s.heap a b).get? i = some (itO kd c) → kd.It (zg5 ka kb s.heap a b) i c 0 := fun kd i c e => by
    cases kd with
    | l => exact ⟨_, e, rfl, rfl⟩
    | t => exact ⟨_, e, rfl, rfl⟩
  rw [z2, z3, z4] at o5
  rw [z1, z2] at o3
  rw [z3] at o4
  rw [z1] at o2
  show _ ∧ _
  rw [z4]
  exact ⟨⟨_, o5, rfl⟩, hQ _ ⟨o3, ⟨_, _, o4⟩, it _ _ _ o1, it _ _ _ o2, Kd.sq_at h1 fun o e => kp _ _ e, Kd.sq_at h2 fun o e => kp _ _ e, .inl o5⟩ o5 z5 kp⟩
end
/-- the heap has grown, some of the new objects are tracked -/
theorem inv_grow {X : Cx} {pins : List (Addr × Obj)} {σ : L2.St} {H H' : Hp} {s : Shared} {h' : Heap} {tk : Nat} (I : Inv X pins σ H s) (hk : ∀ b o, s.heap.get? b = some o → h'.get? b = some o) (kp : ∀ b u, H b = some u → H' b = some u)
    (nn : ∀ b o, s.heap.get? b = some o → H b = none → H' b = none) (hok : ∀ b u, H' b = some u → H b = some u ∨ ObjOk X.prog X.w H' h' b u) : Inv X pins σ H' { s with heap := h', toks := tk } := by
  refine I.call' (ch := []) rfl ⟨fun b o q _ _ _ => hk b o q, fun b o q _ _ _ => ⟨o.slots, hk b o q⟩, fun b o q n _ => nn b o q n, fun b o q _ => ⟨o, hk b o q⟩, fun b xs q => kp b _ q, fun b o u q => kp b _ q, fun b ps q => ⟨#[], by rw [kp b _ q]; simp⟩⟩ (fun b u q => ?_) I.bare fun b z => nomatch z
  rcases hok b u q with e | e
  · exact (I.hok b u e).stay (fun d v _ y => hk d v y) (fun d y => kp d _ y) fun d xs y => kp d _ y
  · exact e
/-- pairs tracked at their places -/
def putP : Hp → List Addr → List V → List V → Hp
  | H, a :: as, x :: xs, y :: ys => putP (upd H a (.tup [x, y])) as xs ys
  | H, _, _, _ => H
theorem putP_off {b : Addr} : ∀ (as : List Addr) (xs ys : List V) (H : Hp), b ∉ as → putP H as xs ys b = H b
  | [], _, _, _, _ => rfl
  | _ :: _, [], _, _, _ => rfl
  | _ :: _, _ :: _, [], _, _ => rfl
  | a :: as, x :: xs, y :: ys, H, h => by
    show putP (upd H a (.tup [x, y])) as xs ys b = H b
    rw [putP_off as xs ys _ (fun z => h (List.mem_cons_of_mem _ z)), upd_ne (fun z => h (by rw [z]; exact List.mem_cons_self))]
theorem putP_at : ∀ (as : List Addr) (xs ys : List V) (H : Hp), as.length ≤ xs.length → as.length ≤ ys.length → as.Nodup → ∀ (j : Nat) (a : Addr), as[j]? = some a → ∃ x y, xs[j]? = some x ∧ ys[j]? = some y ∧ putP H as xs ys a = some (.tup [x, y])
  | [], _, _, _, _, _, _, _, _, e => by simp at e
  | _ :: _, [], _, _, h, _, _, _, _, _ => by simp at h
  | _ :: _, _ :: _, [], _, _, h, _, _, _, _ => by simp at h
  | a :: as, x :: xs, y :: ys, H, h1, h2, hn, 0, b, e => by
    have e : a = b := by simpa using e
    subst e
    refine ⟨x, y, rfl, rfl, ?_⟩
    show putP (upd H a (.tup [x, y])) as xs ys a = _
    rw [putP_off as xs ys _ (List.nodup_cons.mp hn).1, upd_same]
  | a :: as, x :: xs, y :: ys, H, h1, h2, hn, j + 1, b, e => by
    obtain ⟨u, v, e1, e2, e3⟩ := putP_at as xs ys (upd H a (.tup [x, y])) (Nat.le_of_succ_le_succ h1) (Nat.le_of_succ_le_succ h2) (List.nodup_cons.mp hn).2 j b (by simpa using e)
    exact ⟨u, v, by simpa using e1, by simpa using e2, e3⟩
theorem refs_vals : ∀ as : List Addr, Vals (as.map V.ref) (as.map Value.ref)
  | [] => .nil
  | _ :: as => .cons rfl (refs_vals as)
def Sq2 (K : PySem.W.Frag) (H : Hp) (a : Addr) (xs : List V) : Prop := SqL K H a xs ∨ SqT K H a xs
theorem sq_of {X : Cx} {pins : List (Addr × Obj)} {σ : L2.St} {H : Hp} {s : Shared} {a : Addr} {xs : List V} (I : Inv X pins σ H s) (q : Sq2 X.K H a xs) : ∃ (kd : Kd) (its : List Value), Vals xs its ∧ kd.Sq s.heap a its.toArray := by
  rcases q with q | q
  · obtain ⟨its, rv, p, _⟩ := I.list q
    exact ⟨.l, its, rv, p.isList⟩
  · obtain ⟨its, rv, p, _⟩ := I.tuple q
    exact ⟨.t, its, rv, p⟩
def rListZip (K : PySem.W.Frag) : List V → Hp → VK → Prop := fun vs H Q => ∃ (a b : Addr) (xs ys : List V), vs = [.ref a, .ref b] ∧ Sq2 K H a xs ∧ Sq2 K H b ys ∧ min xs.length ys.length ≤ sizeLine ∧
  ∀ (H' : Hp) (p : Addr) (ts : List Addr), (∀ b o, H b = some o → H' b = some o) → H p = none → (∀ t ∈ ts, H t = none) → ts.length = min xs.length ys.length → H' p = some (.lst (ts.map V.ref)) →
    (∀ (j : Nat) (t : Addr), ts[j]? = some t → ∃ x y, xs[j]? = some x ∧ ys[j]? = some y ∧ H' t = some (.tup [x, y])) → Q (.ref p) H'
def tListZip (K : PySem.W.Frag) (ta : TA) : TE := fun σ H Q => ta σ H fun vs H1 => rListZip K vs H1 Q
/-- list(zip(e, e2)) -/
theorem pe_listZip {X : Cx} {e e2 : Expr} {ta : TA} {p p2 pos pos2 : Pos} (hc : X.calm = true) (hg : Gl X "list") (hm : X.mg "list" = none) (hv : bootBuiltins "list" = some (.type "list")) (hg2 : Gl X "zip") (hm2 : X.mg "zip" = none) (ha : PA X [e, e2] ta)
    (hs : starEach [.Call (.Name "zip" p2) [e, e2] [] pos2] X.env = (false, eval (.Call (.Name "zip" p2) [e, e2] [] pos2) X.env) :: starEach [] X.env := by rfl)
    (hs2 : starEach [e, e2] X.env = (false, eval e X.env) :: starEach [e2] X.env := by rfl) (hpl : (backTo pos2 (starEach [e2] X.env)).any (·.1) = false := by rfl) :
    PE X (.Call (.Name "list" p) [.Call (.Name "zip" p2) [e, e2] [] pos2] [] pos) (tListZip X.K ta) := by
  refine ⟨fun pins s σ H Q I hq => ?_⟩
  refine wpAny_Call_Name_kw (ld_blt I hg hm hv (PyProof.Rows.callWith_type1 ?_ hs rfl))
  rw [hs]
  show wpAny _ _ (spliced ((false, eval (.Call (.Name "zip" p2) [e, e2] [] pos2) X.env) :: backTo pos (starEach [] X.env))) _ _ s
  refine Calls.spliced_cons (Call_ (ld_blt I hg2 hm2 PyProof.Rows.boot_zip (PyProof.Rows.callWith_type1 (thn (ha.run pos2 pins s σ H _ I hq) fun us s1 ⟨vs, H1, I1, r1, q1⟩ => ?_) hs2 hpl)))
  obtain ⟨a, b, xs, ys, rfl, qa, qb, hmin, q⟩ := q1
  obtain ⟨u, us, rfl, ru, rr⟩ : ∃ u us', us = u :: us' ∧ RelV (V.ref a) u ∧ Vals [V.ref b] us' := by cases r1 with | cons r t => exact ⟨_, _, rfl, r, t⟩
  obtain ⟨u2, rfl, ru2⟩ : ∃ u2, us = [u2] ∧ RelV (V.ref b) u2 := by cases rr with | cons r t => cases t; exact ⟨_, rfl, r⟩
  obtain rfl : u = Value.ref a := ru
  obtain rfl : u2 = Value.ref b := ru2
  obtain ⟨ka, ia, va, sa⟩ := sq_of I1 qa
  obtain ⟨kb, ib, vb, sb⟩ := sq_of I1 qb
  have la := va.length
  have lb := vb.length
  have mn : min ia.toArray.size ib.toArray.size = min xs.length ys.length := by rw [List.size_toArray, List.size_toArray, la, lb]
  refine call_zg sa sb fun g Z zo sz kp => Calls.spliced_nil ?_
  have hal := Kd.sq_lt sa
  have hbl := Kd.sq_lt sb
  refine zl_call (s := { s1 with heap := g }) (I1.ok.hd hc) (PySem.W.ktu_apart s1.heap.objs.size a b hal hbl) Z (Heap.lt_size Z.ti) (Nat.lt_of_lt_of_le hal (by show s1.heap.objs.size ≤ g.objs.size; rw [sz]; exact Nat.le_add_right _ _)) (Nat.lt_of_lt_of_le hbl (by show s1.heap.objs.size ≤ g.objs.size; rw [sz]; exact Nat.le_add_right _ _)) (by rw [mn]; exact hmin) fun h' acc c as k1 k2 k3 k4 k5 => ?_
  dsimp only at k1 k2 k3 k4 k5 ⊢
  have hS : s1.heap.objs.size ≤ g.objs.size := by rw [sz]; exact Nat.le_add_right _ _
  have hk : ∀ b o, s1.heap.get? b = some o → h'.get? b = some o := fun b o e => by
    have lt := Heap.lt_size e
    exact k1 b o (Nat.ne_of_lt (Nat.lt_of_lt_of_le lt (Nat.le_add_right _ _))) (Nat.ne_of_lt (Nat.lt_of_lt_of_le lt (Nat.le_add_right _ _))) (Nat.ne_of_lt lt) (Nat.ne_of_lt (Nat.lt_of_lt_of_le lt (Nat.le_add_right _ _))) (kp _ _ e)
  have nS : H1 g.objs.size = none := I1.hok.fresh hS
  have nas : ∀ t ∈ as, H1 t = none := fun t ht => I1.hok.fresh (Nat.le_trans hS (Nat.le_of_lt (k4.above t ht)))
  have nd : as.Nodup := List.Pairwise.imp (fun {x y} (h : x < y) => Nat.ne_of_lt h) k4.rise
  have Sn : g.objs.size ∉ as := fun z => Nat.lt_irrefl _ (k4.above _ z)
  have lx : as.length ≤ xs.length := by rw [k3, mn]; exact Nat.min_le_left _ _
  have ly : as.length ≤ ys.length := by rw [k3, mn]; exact Nat.min_le_right _ _
  have at_ := putP_at as xs ys (upd H1 g.objs.size (.lst (as.map V.ref))) lx ly nd
  have off : ∀ b, b ∉ as → b ≠ g.objs.size → putP (upd H1 g.objs.size (.lst (as.map V.ref))) as xs ys b = H1 b := fun b h1 h2 => by rw [putP_off as xs ys _ h1, upd_ne h2]
  have eS : putP (upd H1 g.objs.size (.lst (as.map V.ref))) as xs ys g.objs.size = some (.lst (as.map V.ref)) := by rw [putP_off as xs ys _ Sn, upd_same]
  have kp2 : ∀ b u, H1 b = some u → putP (upd H1 g.objs.size (.lst (as.map V.ref))) as xs ys b = some u := fun b u e => by
    rw [off b (fun z => by rw [nas b z] at e; cases e) (fun z => by rw [z, nS] at e; cases e)]
    exact e
  refine ⟨.ref g.objs.size, _, inv_grow (tk := s1.toks) I1 hk kp2 (fun b o e n => ?_) (fun b u e => ?_), rfl, q _ _ as kp2 nS nas (by rw [k3, mn]) eS at_⟩
  · have lt := Heap.lt_size e
    rw [off b (fun z => absurd (Nat.lt_of_lt_of_le lt (Nat.le_trans hS (Nat.le_of_lt (k4.above b z)))) (Nat.lt_irrefl _)) (Nat.ne_of_lt (Nat.lt_of_lt_of_le lt hS))]
    exact n
  · by_cases hb : b ∈ as
    · right
      obtain ⟨j, hj, rfl⟩ := List.getElem_of_mem hb
      obtain ⟨x, y, e1, e2, e3⟩ := at_ j _ (List.getElem?_eq_getElem hj)
      rw [e3] at e
      cases e
      obtain ⟨vx, vy, f1, f2, f3⟩ := k4.at_ j _ (List.getElem?_eq_getElem hj)
      obtain ⟨wx, g1, r1⟩ := va.get e1
      obtain ⟨wy, g2, r2⟩ := vb.get e2
      have h1 : vx = wx := Option.some.inj (f1.symm.trans (by simpa using g1))
      have h2 : vy = wy := Option.some.inj (f2.symm.trans (by simpa using g2))
      subst h1 h2
      exact ⟨by show 2 ≤ sizeLine; decide, [vx, vy], .cons r1 (.cons r2 .nil), ⟨_, f3, rfl, _, rfl⟩⟩
    · by_cases hb2 : b = g.objs.size
      · right
        rw [hb2] at e ⊢
        rw [eS] at e
        cases e
        refine ⟨by rw [List.length_map, k3, mn]; exact hmin, acc.toList, c, by rw [k5]; exact refs_vals as, ?_⟩
        rw [Array.toArray_toList]
        exact k2
      · left
        rw [off b hb hb2] at e
        exact e
end PKZ
namespace PKZ
open PySem PySem.Spec PyProof.Rows L2
def SqV (kd : Kd) (K : PySem.W.Frag) (H : Hp) (a : Addr) (xs : List V) : Prop := match kd with
  | .l => SqL K H a xs
  | .t => SqT K H a xs
theorem sq_kd {X : Cx} {pins : List (Addr × Obj)} {σ : L2.St} {H : Hp} {s : Shared} {kd : Kd} {a : Addr} {xs : List V} (I : Inv X pins σ H s) (q : SqV kd X.K H a xs) : ∃ its : List Value, Vals xs its ∧ kd.Sq s.heap a its.toArray := by
  cases kd with
  | l => obtain ⟨its, rv, p, _⟩ := I.list q; exact ⟨its, rv, p.isList⟩
  | t => obtain ⟨its, rv, p, _⟩ := I.tuple q; exact ⟨its, rv, p⟩
/-- pairs of the items of two sequences -/
def ItP (K : PySem.W.Frag) (ka kb : Kd) (a b : Addr) (xs ys : List V) : It :=
  ⟨fun i H => SqV ka K H a xs ∧ SqV kb K H b ys ∧ i < xs.length ∧ i < ys.length,
    fun i H v H' => ∃ T x y, v = .ref T ∧ H T = none ∧ H' = upd H T (.tup [x, y]) ∧ xs[i]? = some x ∧ ys[i]? = some y,
    fun i H => SqV ka K H a xs ∧ SqV kb K H b ys ∧ (xs.length ≤ i ∨ ys.length ≤ i)⟩
theorem turn_zip {P : Program} {w : World} {K : PySem.W.Frag} {elts : List Expr} {kk : Nat} {tpos : Pos} {ka kb : Kd} {a b z TI TO i1 i2 : Addr} {xs ys : List V} (D : ZipApart z TI TO i1 i2 a b) :
    Turn P w K (.Tuple elts kk tpos) (ItP K ka kb a b xs ys) [z, TI, TO, i1, i2] z (fun i h => Zo h z TI TO .none false ∧ IsPair h TI (.ref i1) (.ref i2) ∧ (∃ x y, IsPair h TO x y) ∧ ka.It h i1 a i ∧ kb.It h i2 b i) where
  mem := List.mem_cons_self
  obj := fun i h st c hc => by
    obtain ⟨q1, q2, ⟨x, y, q3⟩, q4, q5⟩ := st
    simp only [List.mem_cons, List.not_mem_nil, or_false] at hc
    rcases hc with e | e | e | e | e
    · rw [e]; exact ⟨_, q1, fun v q => nomatch q⟩
    · rw [e]; exact ⟨_, q2, fun v q => nomatch q⟩
    · rw [e]; exact ⟨_, q3, fun v q => nomatch q⟩
    · rw [e]; exact Kd.it_get q4
    · rw [e]; exact Kd.it_get q5
  keep := fun i h h' st k => by
    obtain ⟨q1, q2, ⟨x, y, q3⟩, q4, q5⟩ := st
    exact ⟨k z (by simp) _ q1, k TI (by simp) _ q2, ⟨x, y, k TO (by simp) _ q3⟩, Kd.it_at q4 fun o q => k i1 (by simp) o q, Kd.it_at q5 fun o q => k i2 (by simp) o q⟩
  item := by
    intro X hP hw hK hc i pins s σ H E I hf st hg
    subst hP hw hK
    obtain ⟨q1, q2, ⟨x0, y0, q3⟩, q4, q5⟩ := st
    obtain ⟨sx, sy, lx, ly⟩ := hg
    obtain ⟨ia, va, sa⟩ := sq_kd I sx
    obtain ⟨ib, vb, sb⟩ := sq_kd I sy
    obtain ⟨u, hu, ru⟩ := va.get (List.getElem?_eq_getElem lx)
    obtain ⟨u2, hu2, ru2⟩ := vb.get (List.getElem?_eq_getElem ly)
    have zl : z < s.heap.objs.size := Heap.lt_size q1
    have hT : s.TypeIs (.ref z) "zip" := ⟨_, q1, rfl⟩
    unfold pyNext
    refine wpAny_bind (wpAny_attempt (wpAny_callSpecial?_slot (name := Str.ofString "__next__") hT F.slot_zip_next (wpAny_call_entry F.slot_zip_next hT F.entry_zip_next ?_ (F.args_zip_next_1 _))))
    refine free_item D q1 q2 q3 q4 q5 sa sb (x := u) (y := u2) (by simpa using hu) (by simpa using hu2) fun h' c1 c2 c3 c4 c5 c6 c7 => wpAny_pure ?_
    refine ⟨_, rfl, wpAny_letOwnedTupleGo_zip (s := { s with heap := h' }) c1 fun g d1 d2 => ?_⟩
    have t2 : g.get? s.heap.objs.size = some { cls := .type "tuple", data := .seq #[u, u2] } := (d2.2 _ (Nat.ne_of_gt zl)).trans c5
    have new : ObjOk X.prog X.w (upd H s.heap.objs.size (.tup [xs[i], ys[i]])) g s.heap.objs.size (.tup [xs[i], ys[i]]) := ⟨by show 2 ≤ sizeLine; decide, [u, u2], .cons ru (.cons ru2 .nil), ⟨_, t2, rfl, _, rfl⟩⟩
    have away : ∀ c o, c ∉ [z, TI, TO, i1, i2] → s.heap.get? c = some o → g.get? c = some o := fun c o hb q => by
      simp only [List.mem_cons, List.not_mem_nil, or_false, not_or] at hb
      exact (d2.2 c hb.1).trans (c7 c o hb.1 hb.2.2.1 hb.2.2.2.1 hb.2.2.2.2 q)
    have I1 : Inv X pins σ (upd H s.heap.objs.size (.tup [xs[i], ys[i]])) { s with heap := g } := I.turnedNew (t' := s.toks) (ch := [z, TI, TO, i1, i2]) away hf (Nat.le_refl _) new
    refine ⟨.ref s.heap.objs.size, _, I1, rfl, ⟨_, xs[i], ys[i], rfl, I.hok.fresh (Nat.le_refl _), rfl, List.getElem?_eq_getElem lx, List.getElem?_eq_getElem ly⟩, ⟨d1, (d2.2 _ D.TIz).trans (c7 _ _ D.TIz D.TITO D.TIi1 D.TIi2 q2), ⟨_, _, (d2.2 _ D.TOz).trans c2⟩, Kd.it_at c3 fun o q => (d2.2 _ D.i1z).trans q, Kd.it_at c4 fun o q => (d2.2 _ D.i2z).trans q⟩, fun c hc => ?_⟩
    have lt : c < s.heap.objs.size := by
      simp only [List.mem_cons, List.not_mem_nil, or_false] at hc
      rcases hc with e | e | e | e | e
      · rw [e]; exact zl
      · rw [e]; exact Heap.lt_size q2
      · rw [e]; exact Heap.lt_size q3
      · rw [e]; obtain ⟨o, p, _⟩ := Kd.it_get q4; exact Heap.lt_size p
      · rw [e]; obtain ⟨o, p, _⟩ := Kd.it_get q5; exact Heap.lt_size p
    rw [upd_ne (Nat.ne_of_lt lt)]
    exact (hf c hc).1
  done := by
    intro X hP hw hK hc i pins s σ H E I hf st hg
    subst hP hw hK
    obtain ⟨q1, q2, ⟨x0, y0, q3⟩, q4, q5⟩ := st
    obtain ⟨sx, sy, hend⟩ := hg
    obtain ⟨ia, va, sa⟩ := sq_kd I sx
    obtain ⟨ib, vb, sb⟩ := sq_kd I sy
    have la := va.length
    have lb := vb.length
    have he : ia.toArray[i]? = none ∨ ib.toArray[i]? = none := by
      rcases hend with q | q
      · exact .inl (by simp; omega)
      · exact .inr (by simp; omega)
    have hT : s.TypeIs (.ref z) "zip" := ⟨_, q1, rfl⟩
    unfold pyNext
    refine wpAny_bind (wpAny_attempt (wpAny_callSpecial?_slot (name := Str.ofString "__next__") hT F.slot_zip_next (wpAny_call_entry F.slot_zip_next hT F.entry_zip_next ?_ (F.args_zip_next_1 _))))
    refine free_end (I.ok.hd hc) D q1 q2 q3 q4 q5 sa sb he fun h' e k ⟨o, ho, hc2⟩ => ?_
    refine wpAny_bind (wpAny_isInstance (T := "StopIteration") (b := true) ⟨o, ho, hc2⟩ isSubtype_stop (wpAny_pure ⟨rfl, I.turnedL (t' := s.toks) (ch := [z, TI, TO, i1, i2]) (fun c o hb q => ?_) hf⟩))
    simp only [List.mem_cons, List.not_mem_nil, or_false, not_or] at hb
    exact k c o hb.1 hb.2.2.1 hb.2.2.2.1 hb.2.2.2.2 q
  self := fun A i s Q E st h => wpAny_pyIter_zip st.1 h
def iZipP (K : PySem.W.Frag) (ta : TA) : TI := fun σ H R => ta σ H fun vs H1 => ∃ (ka kb : Kd) (a b : Addr) (xs ys : List V), vs = [.ref a, .ref b] ∧ SqV ka K H1 a xs ∧ SqV kb K H1 b ys ∧ R (ItP K ka kb a b xs ys) H1
/-- for x, y in zip(e, e2), lists and tuples -/
theorem pi_zipP {X : Cx} {e e2 : Expr} {ta : TA} {p pos tpos : Pos} {elts : List Expr} {kk : Nat} (hg : Gl X "zip") (hm : X.mg "zip" = none) (ha : PA X [e, e2] ta)
    (hs : starEach [e, e2] X.env = (false, eval e X.env) :: starEach [e2] X.env := by rfl) (hpl : (backTo pos (starEach [e2] X.env)).any (·.1) = false := by rfl) :
    PI X (.Tuple elts kk tpos) (.Call (.Name "zip" p) [e, e2] [] pos) (iZipP X.K ta) := by
  refine ⟨fun pins s σ H R I h => ?_⟩
  refine Call_ (ld_blt I hg hm PyProof.Rows.boot_zip (PyProof.Rows.callWith_type1 (thn (ha.run pos pins s σ H _ I h) fun us s1 ⟨vs, H1, I1, r1, q1⟩ => ?_) hs hpl))
  obtain ⟨ka, kb, a, b, xs, ys, rfl, sx, sy, q⟩ := q1
  obtain ⟨u, u2, rfl, ru, ru2⟩ : ∃ u u2, us = [u, u2] ∧ RelV (V.ref a) u ∧ RelV (V.ref b) u2 := by
    cases r1 with
    | cons r t => cases t with
      | cons r2 t => cases t; exact ⟨_, _, rfl, r, r2⟩
  obtain rfl : u = Value.ref a := ru
  obtain rfl : u2 = Value.ref b := ru2
  obtain ⟨ia, va, sa⟩ := sq_kd I1 sx
  obtain ⟨ib, vb, sb⟩ := sq_kd I1 sy
  refine call_zg sa sb fun g Z zo sz kp => wpAny_pyIter_zip (s := { s1 with heap := g }) zo ?_
  have I2 : Inv X pins σ H1 { s1 with heap := g } := I1.kept (t' := s1.toks) kp
  refine ⟨s1.heap.objs.size + 4, [s1.heap.objs.size + 4, s1.heap.objs.size + 2, s1.heap.objs.size + 3, s1.heap.objs.size, s1.heap.objs.size + 1], _, _, H1, rfl, I2, turn_zip (PySem.W.ktu_apart s1.heap.objs.size a b (Kd.sq_lt sa) (Kd.sq_lt sb)), ⟨zo, Z.ti, Z.to, Z.it1, Z.it2⟩, fun c hc => ?_, q⟩
  have le : s1.heap.objs.size ≤ c := by
    simp only [List.mem_cons, List.not_mem_nil, or_false] at hc
    rcases hc with e | e | e | e | e
    · rw [e]; exact Nat.le_add_right _ _
    · rw [e]; exact Nat.le_add_right _ _
    · rw [e]; exact Nat.le_add_right _ _
    · rw [e]; exact Nat.le_refl _
    · rw [e]; exact Nat.le_add_right _ _
  exact I1.fpOk le (I1.hok.fresh le)
theorem walk_zipP {K : PySem.W.Frag} {ka kb : Kd} {a b : Addr} {xs ys : List V} {n : Nat} (hn : n = min xs.length ys.length) : Walk (ItP K ka kb a b xs ys) n (fun H => SqV ka K H a xs ∧ SqV kb K H b ys) (YPair (fun i => xs[i]?) (fun i => ys[i]?)) := by
  subst hn
  refine ⟨fun i _ hi q => ⟨q.1, q.2, by omega, by omega⟩, fun _ q => ⟨q.1, q.2, by omega⟩, fun i H v H' _ q y => ?_⟩
  obtain ⟨T, x, y, h1, h2, h3, h4, h5⟩ := y
  exact ⟨T, x, y, h1, h2, h3, h4, h5⟩
end PKZ
namespace PKZ
open PySem PySem.Spec PyProof.Rows L2
/-! t[::-1] of a tuple; xs.extend(t) -/
theorem adjust_back (n : Nat) : Builtin.Slice.sliceAdjust none none (-1) (n : Int) = ((n : Int) - 1, -1) := by
  unfold Builtin.Slice.sliceAdjust
  simp
theorem places_back (n : Nat) : Builtin.Slice.slicePlaces ((n : Int) - 1) (-1) (-1) = n := by
  unfold Builtin.Slice.slicePlaces
  rw [if_neg (by decide), show (- -1 : Int) = 1 by decide, Int.ediv_one]
  split <;> omega
theorem fm_congr {α β : Type} {f g : α → Option β} : ∀ {l : List α}, (∀ x ∈ l, f x = g x) → l.filterMap f = l.filterMap g
  | [], _ => rfl
  | x :: r, h => by
    have e := h x List.mem_cons_self
    have ih := fm_congr (l := r) fun y hy => h y (List.mem_cons_of_mem _ hy)
    cases q : f x with
    | none => rw [List.filterMap_cons_none q, List.filterMap_cons_none (e ▸ q), ih]
    | some y => rw [List.filterMap_cons_some q, List.filterMap_cons_some (e ▸ q), ih]
theorem pick_back (xs : List Value) : (((List.range xs.length).filterMap fun (k : Nat) => xs.toArray[((xs.length : Int) - 1 + (k : Int) * (-1)).toNat]?)) = xs.reverse := by
  have e : (List.range xs.length).filterMap (fun (k : Nat) => xs.toArray[((xs.length : Int) - 1 + (k : Int) * (-1)).toNat]?) = (List.range xs.length).filterMap fun k => xs.reverse.toArray[0 + k]? := by
    refine fm_congr fun k hk => ?_
    have hk := List.mem_range.mp hk
    have : ((xs.length : Int) - 1 + (k : Int) * (-1)).toNat = xs.length - 1 - k := by omega
    rw [this]
    simp [List.getElem?_reverse hk]
  have p := pick_run xs.reverse.toArray 0 xs.length
  rw [List.filterMap_map] at p
  rw [e]
  refine p.trans ?_
  rw [List.drop_zero]
  exact List.take_of_length_le (by rw [List.length_reverse]; exact Nat.le_refl _)
section
variable {prog : Program} {w : World} {A : Around} {E : Value → Shared → Prop} {s : Shared}
theorem applied_back {sl : Addr} {t : Tok} {n : Nat} {Q : Int × Int × Nat → Shared → Prop} (hs : s.heap.IsSliceOf sl .none .none (.int (-1) t)) (h : Q ((n : Int) - 1, -1, n) s) : wpAny (model prog w) A (Builtin.Slice.sliceApplied (.ref sl) (pure (n : Int))) Q E s := by
  obtain ⟨os, hos, hcs, hds⟩ := id hs
  unfold Builtin.Slice.sliceApplied Builtin.Slice.sliceFields
  refine wpAny_bind (wpAny_bind (wpAny_field hos hds (x := .none) rfl (wpAny_bind (wpAny_field hos hds (x := .none) rfl (wpAny_bind (wpAny_field hos hds (x := .int (-1) t) rfl (wpAny_pure ?_)))))))
  refine wpAny_bind (HT.slicePart_ (o := some (-1)) (.int _ _) ?_)
  show wpAny _ _ (if ((-1 : Int) == 0) = true then _ else _) _ _ s
  rw [if_neg (by decide)]
  refine wpAny_bind (HT.slicePart_ .none (wpAny_bind (HT.slicePart_ .none (wpAny_bind (wpAny_pure ?_)))))
  show wpAny _ _ (match Builtin.Slice.sliceAdjust none none (-1) (n : Int) with | (lo, hi) => pure (lo, (-1 : Int), Builtin.Slice.slicePlaces lo hi (-1))) _ _ s
  rw [adjust_back]
  show wpAny _ _ (pure ((n : Int) - 1, (-1 : Int), Builtin.Slice.slicePlaces ((n : Int) - 1) (-1) (-1))) _ _ s
  rw [places_back]
  exact wpAny_pure h
theorem tuple_back {t sl : Addr} {its : List Value} {tk : Tok} {Q : Value → Shared → Prop} (ht : PyProof.Rows.IsTup s.heap t its.toArray) (hs : s.heap.IsSliceOf sl .none .none (.int (-1) tk)) (hz : its.length ≤ sizeLine)
    (h : Q (.ref s.heap.objs.size) { s with heap := s.heap.push { cls := .type "tuple", data := .seq its.reverse.toArray } }) : wpAny (model prog w) A (getItem (.ref t) (.ref sl)) Q E s := by
  have fit : sizeOk (.seq its.reverse.toArray) := by
    show its.reverse.toArray.size ≤ sizeLine
    rw [List.size_toArray, List.length_reverse]; exact hz
  obtain ⟨os, hos, hcs, hds⟩ := id hs
  unfold getItem
  try with_reducible refine wpAny_holding ?_
  first | refine wpAny_bind (wpAny_pure ?_) | skip
  refine wpAny_bind (wpAny_sequenceKey ht.typeIs (by decide) (wpAny_bind (wpAny_callSpecial?_slot (name := Str.ofString "__getitem__") ht.typeIs PyProof.Rows.slot_tuple_getitem (wpAny_call_entry PyProof.Rows.slot_tuple_getitem ht.typeIs entry_tuple_getitem ?_ (args_tuple_getitem _ _)))))
  show wpAny _ _ (Builtin.Tuple.tupleItemsOf (.ref t) >>= _) _ _ s
  refine wpAny_bind (tupleItemsOf_ ht (wpAny_bind (wpAny_typeOf (T := "slice") ⟨os, hos, hcs⟩ ?_)))
  rw [if_pos (by decide)]
  refine wpAny_bind (applied_back hs ?_)
  have no : ¬ ((((its.toArray.size : Int) - 1) == 0 && (-1 : Int) == 1 && its.toArray.size == its.toArray.size) = true) := by simp
  show wpAny _ _ (if ((((its.toArray.size : Int) - 1) == 0 && (-1 : Int) == 1 && its.toArray.size == its.toArray.size)) = true then _ else _) _ _ s
  rw [if_neg no]
  have pk : ((List.range its.toArray.size).filterMap fun (k : Nat) => its.toArray[((its.toArray.size : Int) - 1 + (k : Int) * (-1)).toNat]?).toArray = its.reverse.toArray := by
    rw [List.size_toArray, pick_back]
  rw [pk]
  first
    | exact wpAny_bind (m := Builtin.Tuple.tupleExact _) (wpAny_newObj_type (wpAny_pure ⟨_, rfl, wpAny_pure h⟩) fit)
    | exact wpAny_bind (m := Builtin.Tuple.tupleExact _) (wpAny_newObj_type (wpAny_bind (wpAny_pure (wpAny_pure ⟨_, rfl, wpAny_pure h⟩))) fit)
    | exact wpAny_bind (wpAny_bind (m := Builtin.Tuple.tupleExact _) (wpAny_newObj_type (wpAny_pure (wpAny_pure ⟨_, rfl, wpAny_pure h⟩)) fit))
    | exact wpAny_bind (wpAny_bind (m := Builtin.Tuple.tupleExact _) (wpAny_newObj_type (wpAny_pure ⟨_, rfl, wpAny_pure h⟩) fit))
end
def tRevT (K : PySem.W.Frag) (te : TE) : TE := fun σ H Q => te σ H fun x H1 => ∃ a xs, x = .ref a ∧ SqT K H1 a xs ∧ ∀ p, H1 p = none → Q (.ref p) (upd H1 p (.tup xs.reverse))
/-- t[::-1] of a tuple -/
theorem pe_revT {X : Cx} {e : Expr} {te : TE} {k : Nat} {p1 p2 p3 pos : Pos} (he : PE X e te) : PE X (.Subscript e (.Slice none none (some (.UnaryOp .USub (.Constant (.int 1) k p1) p2)) p3) pos) (tRevT X.K te) := by
  refine ⟨fun pins s σ H Q I h => Subscript_ (thn (he.run pins s σ H _ I h) fun v s1 ⟨x, H1, I1, r1, q1⟩ => ?_)⟩
  obtain ⟨a, xs, ex, hx, q⟩ := q1
  subst ex
  cases r1
  have hst : PO X (some (.UnaryOp .USub (.Constant (.int 1) k p1) p2)) (tPart (tUn (rU fun i => .int (-i)) (tC (.int 1)))) := po_some (pe_un un_neg pe_int)
  refine wpAny_Slice (thn (po_none.run pins s1 σ H1 (fun o H2 => o = none ∧ H2 = H1) I1 ⟨rfl, rfl⟩) fun vl s2 ⟨l, H2, I2, pl, el, e2⟩ => ?_)
  subst el e2
  refine thn (po_none.run pins s2 σ H2 (fun o H3 => o = none ∧ H3 = H2) I2 ⟨rfl, rfl⟩) fun vu s3 ⟨u, H3, I3, pu, eu, e3⟩ => ?_
  subst eu e3
  refine thn (hst.run pins s3 σ H3 (fun o H4 => o = some (-1) ∧ H4 = H3) I3 ⟨1, rfl, -1, rfl, rfl, rfl⟩) fun vs s4 ⟨o, H4, I4, ps, eo, e4⟩ => ?_
  subst eo e4
  have I5 : Inv X pins σ H4 { s4 with heap := s4.heap.push { cls := .type "slice", data := .fields #[vl, vu, vs] } } := I4.kept (t' := s4.toks) fun b ob q => Heap.get?_push_of_some _ q
  cases pl
  cases pu
  cases ps
  obtain ⟨its, r, ht, hz⟩ := I5.tuple hx
  have hlen := r.length
  refine tail_any (ops := [.ref a, .ref s4.heap.objs.size]) ht.typeIs (PyProof.Rows.slot_tuple_getitem.lookup) (tuple_back ht (Heap.IsSliceOf.new ..) (by omega) ?_) (by with_unfolding_all rfl)
  refine ⟨.ref _, _, I5.laid (t' := s4.toks) (o := .tup xs.reverse) (fun b ob q => Heap.get?_push_of_some _ q) (Nat.le_refl _) ?_, rfl, q _ (I5.hok.fresh (Nat.le_refl _))⟩
  exact ⟨by rw [List.length_reverse]; exact hz, _, r.reverse, IsTup.new _ _⟩
/-- a list is extended by a tuple -/
theorem extend_meets (l b : Addr) (xs ys : Array Value) (n m : Nat) (od : Option Addr) (os : Array (Option Value)) (long : ¬ (!xs.isEmpty && Builtin.List.listTooLong (xs.size + ys.size)) = true) (hx : xs.size ≤ sizeLine) (hxy : (xs ++ ys).size ≤ sizeLine + 1) :
    Meets (Builtin.«list.extend» ⟨[.ref l, .ref b], []⟩) (fun _ R s => s.heap.get? l = some { cls := .type "list", dict := none, data := .seq xs n, slots := #[] } ∧ s.heap.get? b = some { cls := .type "tuple", dict := od, data := .seq ys m, slots := os } ∧
      R (.ok (.ret Value.none)) { s with heap := s.heap.update l (Obj.mapSeq (· ++ ys)) }) :=
  .of_wp fun prog w A R s h => by
    obtain ⟨hp, g, d, tk, o⟩ := s
    obtain ⟨hl, hb, h⟩ := h
    have f1 := AutoSeq1.idx_int
    have f2 := AutoSeq1.sub_tuple_tuple
    have f3 := AutoSeq1.sub_list_list
    have f4 := AutoSeq1.sub_tuple_list
    wp_walk using (wpAny_updateSeq hl rfl (hz := hx) (_hz' := hxy)), wpAny_loadPart' hl, wpAny_loadPart' hb
    exact ⟨_, rfl, h⟩
def rExtT (K : PySem.W.Frag) : V → List V → Hp → VK → Prop := fun x vs H Q => ∃ l b xs zs, x = .ref l ∧ vs = [.ref b] ∧ H l = some (.lst xs) ∧ SqT K H b zs ∧ xs.length + zs.length ≤ sizeLine ∧ Q .non (upd H l (.lst (xs ++ zs)))
theorem mt_extendT {X : Cx} : MtM X "list.extend" (rExtT X.K) := by
  intro pins s σ H x vs v us Q I rx rv h
  obtain ⟨l, b, xs, zs, rfl, rfl, hH, hB, hz, q⟩ := h
  cases rx
  obtain ⟨u, rfl, ru⟩ := rv.one
  cases ru
  obtain ⟨z, its, n, r, hl, e⟩ := I.lstM hH
  obtain ⟨its2, r2, ⟨o, ho, hc, n2, hd⟩, _⟩ := I.tuple hB
  obtain ⟨oc, od, odt, osl⟩ := o
  cases hc
  cases hd
  have l2 := r2.length
  have hsz : its.toArray.size + its2.toArray.size ≤ sizeLine := by rw [List.size_toArray, List.size_toArray]; omega
  have long : ¬ (!its.toArray.isEmpty && Builtin.List.listTooLong (its.toArray.size + its2.toArray.size)) = true := by
    rw [notLongL hsz, Bool.and_false]
    exact Bool.false_ne_true
  refine call_meets F.slot_list_extend ⟨_, e, rfl⟩ F.entry_list_extend (F.args_list_extend_2 _ _) (extend_meets l b its.toArray its2.toArray n n2 od osl long (by rw [List.size_toArray]; omega) (by rw [Array.size_append]; omega)) ⟨e, ho, ?_⟩
  refine ⟨.non, _, I.lset (its' := its ++ its2) hH e (by simp) (r.append r2) ?_, rfl, q⟩
  rw [List.length_append]
  omega
end PKZ
namespace PKZ
open PySem PySem.Spec PyProof.Rows L2
/-! dict(zip(e, e2)) -/
theorem zip_nokeys : typeLookup (.type "zip") "keys" = pure none := by
  rw [typeLookup_type, builtinLookup_eq_fast]; kernel_rfl
theorem zip_nogetattr : typeLookup (.type "zip") "__getattr__" = pure none := by
  rw [typeLookup_type, builtinLookup_eq_fast]; kernel_rfl
theorem zip_getattribute : entryFor table "zip.__getattribute__" = some Builtin.«object.__getattribute__» :=
  entryFor_alias (id' := "object.__getattribute__") (by kernel_rfl) (by decide +kernel) (by decide +kernel) (by kernel_rfl)
set_option maxRecDepth 8000 in
theorem zip_miss (a : Addr) (vs : Array Value) (u : Tok) :
    Meets (Builtin.«object.__getattribute__» ⟨[.ref a, .str "keys" u], []⟩) (fun A R s => s.heap.get? a = some { cls := .type "zip", dict := none, data := .fields vs, slots := #[] } ∧ raisesAttr (.ref a) "keys" A R s) :=
  Meets.of_wp fun prog w A R s hs => by
    obtain ⟨hp, g, d, tk, os⟩ := s
    obtain ⟨hx, hs⟩ := hs
    have hT : (⟨hp, g, d, tk, os⟩ : Shared).TypeIs (.ref a) "zip" := ⟨_, hx, rfl⟩
    have hmiss := zip_nokeys
    have hname : (["__module__", "__name__", "__qualname__", "__doc__", "__annotations__"] : List Str).contains "keys" = false := by decide +kernel
    have hsz : ("keys" : Str).length + 100 ≤ sizeLine := by first | size_fits | decide +kernel
    unfold Builtin.«object.__getattribute__»
    repeat (any_goals (first | assumption | wp_step))
    try simp only [hname, Bool.false_eq_true, if_false]
    repeat (any_goals (first | assumption | wp_step))
    exact wpAny_raiseAttrError hs.1 hs.2 (attrMsg_fits (by decide +kernel) hsz)
section
variable {prog : Program} {w : World} {A : Around} {E : Value → Shared → Prop}
set_option maxRecDepth 8000 in
theorem zip_has_no_keys {s : Shared} {a : Addr} {vs : Array Value} {Q : Option Value → Shared → Prop} (hx : s.heap.get? a = some { cls := .type "zip", dict := none, data := .fields vs, slots := #[] }) (hA : A.handled = none)
    (h : ∀ h' tk, (∀ b ob, s.heap.get? b = some ob → h'.get? b = some ob) → Q none { s with heap := h', toks := tk }) : wpAny (model prog w) A (getAttr? (.ref a) "keys") Q E s := by
  obtain ⟨hp, g, d, tk, os⟩ := s
  have hT : ∀ tk', (⟨hp, g, d, tk', os⟩ : Shared).TypeIs (.ref a) "zip" := fun _ => ⟨_, hx, rfl⟩
  have f1 := sub_AttributeError
  have f3 := PySem.F.slot_zip_getattribute.lookup
  have f4 := PySem.F.slot_zip_getattribute.bind (.ref a)
  have f5 := zip_nogetattr
  unfold getAttr? getAttrBy? getAttrBy
  repeat (any_goals (first | assumption | exact hT _ | ((with_reducible show wpAny _ _ (call (Value.builtin "zip.__getattribute__") _ _) _ _ _); refine call_meets PySem.F.slot_zip_getattribute (hT _) zip_getattribute (PySem.F.args_zip_getattribute_2 _ _) (zip_miss _ _ _) ⟨hx, hA, fun h' tk' e hx' => ?_⟩) | wp_step))
  obtain ⟨t', u', he⟩ := hx'.there
  show wpAny _ _ (getattributeRaised _ _ _ _ _ _ _) _ _ _
  unfold getattributeRaised
  repeat (any_goals (first | assumption | wp_step))
  all_goals first | exact h _ _ hx'.keeps | (dsimp only; repeat (any_goals (first | assumption | exact h _ _ hx'.keeps | wp_step)))
end
end PKZ
namespace PKZ
open PySem PySem.Spec PyProof.Rows L2
section
variable {prog : Program} {w : World} {A : Around} {E : Value → Shared → Prop} {ka kb : Kd} {z TI TO i1 i2 l1 l2 S : Addr} {xs ys : Array Value}
theorem dz_loop {R : Result → Shared → Prop} {res : Value} (hh : A.handled = none) (D : ZipApart z TI TO i1 i2 l1 l2) (hS : S ≠ z ∧ S ≠ TI ∧ S ≠ TO ∧ S ≠ i1 ∧ S ≠ i2 ∧ S ≠ l1 ∧ S ≠ l2) :
    ∀ (rest : List (Key × Value)) (i : Nat) (acc : List (Key × Value)) (ix : Int) (t : Tok) (s : Shared), (∀ (j : Nat) (q : Key × Value), rest[j]? = some q → ∃ u, xs[i + j]? = some u ∧ ys[i + j]? = some q.2 ∧ keyIs q.1 u = true) →
      min xs.size ys.size = i + rest.length → acc.length + rest.length ≤ sizeLine → ZSt ka kb z TI TO i1 i2 l1 l2 xs ys i s.heap → s.heap.DictOf (mixKind prog w) S acc →
      (∀ h' tk, h'.DictOf (mixKind prog w) S (merged acc rest) → (∀ b o, b ≠ S → b ≠ z → b ≠ TO → b ≠ i1 → b ≠ i2 → s.heap.get? b = some o → h'.get? b = some o) → R (.ok (.ret res)) { s with heap := h', toks := tk }) →
      codeAny (model prog w) A (.builtin "dict.update.loop" ⟨[.ref S, .ref z, .int ix t, res], []⟩) R s
  | [], i, acc, ix, t, s, hp, hn, hl, Z, hd, hR => by
    refine codeAny_builtin ud_entry ?_
    (rw [Around.under_plainId ud_plain])
    show wpAny _ A.in1 (pyNext (.ref z) >>= _) _ _ s
    have hend : xs[i]? = none ∨ ys[i]? = none := by
      have hn : min xs.size ys.size = i := hn
      rcases Nat.le_total xs.size ys.size with q | q
      · exact .inl (Array.getElem?_eq_none (by omega))
      · exact .inr (Array.getElem?_eq_none (by omega))
    refine wpAny_bind (zst_done (A := A.in1) hh D Z hend fun h' e => ?_)
    show wpAny _ A.in1 (Builtin.Dict.addKeywords S [] >>= _) _ _ _
    refine wpAny_bind (wpAny_pure (wpAny_pure (hR h' s.toks (hd.at fun o q => e _ o hS.1 hS.2.2.1 hS.2.2.2.1 hS.2.2.2.2.1 q) fun b o _ b2 b3 b4 b5 q => e b o b2 b3 b4 b5 q)))
  | p :: rest, i, acc, ix, t, s, hp, hn, hl, Z, hd, hR => by
    obtain ⟨u, hu, hv, hk⟩ := hp 0 p rfl
    rw [List.length_cons] at hn hl
    refine codeAny_builtin ud_entry ?_
    (rw [Around.under_plainId ud_plain])
    show wpAny _ A.in1 (pyNext (.ref z) >>= _) _ _ s
    refine wpAny_bind (zst_item (A := A.in1) D Z (by simpa using hu) (by simpa using hv) fun h1 Z1 pr sz e => ?_)
    have hd1 : h1.DictOf (mixKind prog w) S acc := hd.at fun o q => e _ o hS.1 hS.2.2.1 hS.2.2.2.1 hS.2.2.2.2.1 q
    show wpAny _ A.in1 (holding [Value.ref s.heap.objs.size] _ >>= _) _ _ _
    refine wpAny_bind (wpAny_holding (wpAny_bind (wpAny_tryCatch ?_)))
    unfold Builtin.Dict.pairItems
    refine wpAny_bind (wpAny_typeOf (T := "tuple") ⟨_, pr, rfl⟩ ?_)
    rw [if_pos (by first | decide | rfl | simp)]
    refine wpAny_bind (wpAny_seqItems pr rfl (wpAny_pure ?_))
    show wpAny _ A.in1 (holding [u, p.2] (dictSet S u p.2)) _ _ _
    refine wpAny_holding (wpAny_dictSet_pairs (knd := mixKind prog w) (k := p.1) hk hd1 (fun h2 hd2 e2 => ?_) (by omega))
    have kS : ∀ o, h1.get? S = some o → ∃ o', h2.get? S = some o' := fun o q => let ⟨q', _, _, hq, _⟩ := hd2; ⟨q', hq⟩
    refine wpAny_pure ⟨plainId_quiet ud_plain _, dz_loop hh D hS rest (i + 1) (stored acc p.1 p.2) (ix + 1) 0 _ (fun j q' h => ?_) (by omega) ?_ (Z1.keep hS (fun b o hb q => e2.extBut b o hb q) kS) hd2 fun h' tk hd' k => ?_⟩
    · obtain ⟨u', a1, a2, a3⟩ := hp (j + 1) q' (by simpa using h)
      exact ⟨u', by rw [show i + 1 + j = i + (j + 1) by omega]; exact a1, by rw [show i + 1 + j = i + (j + 1) by omega]; exact a2, a3⟩
    · have := stored_length_le acc p.1 p.2
      omega
    · exact hR h' tk hd' fun b o b1 b2 b3 b4 b5 q => k b o b1 b2 b3 b4 b5 (e2.extBut b o b1 (e b o b2 b3 b4 b5 q))
theorem dz_call {s : Shared} {prs : List (Key × Value)} {Q : Value → Shared → Prop} (hh : A.handled = none) (D : ZipApart z TI TO i1 i2 l1 l2) (Z : ZSt ka kb z TI TO i1 i2 l1 l2 xs ys 0 s.heap) (zo : Zo s.heap z TI TO .none false)
    (lTI : TI < s.heap.objs.size) (l1l : l1 < s.heap.objs.size) (l2l : l2 < s.heap.objs.size) (hp : ∀ (j : Nat) (q : Key × Value), prs[j]? = some q → ∃ u, xs[j]? = some u ∧ ys[j]? = some q.2 ∧ keyIs q.1 u = true) (hn : min xs.size ys.size = prs.length) (hl : prs.length ≤ sizeLine)
    (hQ : ∀ h' tk, h'.DictOf (mixKind prog w) s.heap.objs.size (merged [] prs) → (∀ b o, b ≠ z → b ≠ TO → b ≠ i1 → b ≠ i2 → s.heap.get? b = some o → h'.get? b = some o) → Q (.ref s.heap.objs.size) { s with heap := h', toks := tk }) :
    wpAny (model prog w) A (call (.type "dict") [.ref z]) Q E s := by
  have zl : z < s.heap.objs.size := Heap.lt_size zo
  have TOl : TO < s.heap.objs.size := by obtain ⟨_, _, q⟩ := Z.to; exact Heap.lt_size q
  have i1l : i1 < s.heap.objs.size := by obtain ⟨o, q, _⟩ := Kd.it_get Z.it1; exact Heap.lt_size q
  have i2l : i2 < s.heap.objs.size := by obtain ⟨o, q, _⟩ := Kd.it_get Z.it2; exact Heap.lt_size q
  refine callType_codes (Q₁ := fun obj s₁ => obj = .ref s.heap.objs.size ∧ s₁ = { s with heap := s.heap.push { cls := .type "dict", data := .dict #[] } }) PySem.F.kt_called_dict (PySem.F.kt_typeCall_dict_1 _) PySem.F.entry_dict_init (kt_code_dict_new _ ⟨rfl, rfl⟩) fun obj s₁ h₁ => ?_
  obtain ⟨rfl, rfl⟩ := h₁
  refine ⟨⟨_, Heap.get?_push_size _ rfl, rfl⟩, PySem.F.args_dict_init_2 _ _, ?_⟩
  have hnew : (s.heap.push { cls := .type "dict", data := .dict #[] }).DictOf (mixKind prog w) s.heap.objs.size [] := Heap.DictOf.new s.heap
  unfold Builtin.«dict.__init__»
  refine wpAny_bind ?_
  unfold Builtin.Dict.selfAndRest
  refine wpAny_bind (wpAny_notOrdered_dict hnew.typeIs ?_)
  show wpAny _ _ (pure (s.heap.objs.size, [Value.ref z])) _ _ _
  refine wpAny_pure ?_
  show wpAny _ _ (Builtin.Dict.updateFrom "dict.__init__" s.heap.objs.size (.ref z) [] .none) _ _ _
  unfold Builtin.Dict.updateFrom
  have kp : ∀ b o, s.heap.get? b = some o → (s.heap.push { cls := .type "dict", data := .dict #[] }).get? b = some o := fun b o e => Heap.get?_push_of_some _ e
  refine wpAny_bind (wpAny_typeOf (T := "zip") ⟨_, kp _ _ zo, rfl⟩ ?_)
  rw [if_pos (by first | decide | rfl | simp)]
  refine wpAny_bind (zip_has_no_keys (kp _ _ zo) hh fun h1 tk1 k1 => ?_)
  simp only [Option.isNone_none, if_true]
  refine wpAny_bind (wpAny_rule ?_)
  have k2 : ∀ b o, s.heap.get? b = some o → h1.get? b = some o := fun b o e => k1 b o (kp b o e)
  refine wpAny_bind (wpAny_pyIter_zip (k2 _ _ zo) ?_)
  refine wpAny_pure ⟨plainId_quiet ud_plain _, ?_⟩
  have ne : ∀ b, b < s.heap.objs.size → s.heap.objs.size ≠ b := fun b h => Ne.symm (Nat.ne_of_lt h)
  refine dz_loop (w := w) (prog := prog) (A := A.in1) (s := ⟨h1, _, _, _, _⟩) (ka := ka) (kb := kb) (xs := xs) (ys := ys) hh D ⟨ne _ zl, ne _ lTI, ne _ TOl, ne _ i1l, ne _ i2l, ne _ l1l, ne _ l2l⟩ prs 0 [] _ _ (fun j q e => ?_) ?_ ?_ ?_ ?_ fun h' tk hd' k => ?_
  · obtain ⟨u, a1, a2, a3⟩ := hp j q e
    exact ⟨u, by rw [Nat.zero_add]; exact a1, by rw [Nat.zero_add]; exact a2, a3⟩
  · rw [Nat.zero_add]; exact hn
  · show 0 + prs.length ≤ sizeLine
    rw [Nat.zero_add]; exact hl
  · exact Z.keep ⟨ne _ zl, ne _ lTI, ne _ TOl, ne _ i1l, ne _ i2l, ne _ l1l, ne _ l2l⟩ (fun b o _ q => k2 b o q) fun o q => absurd (Heap.lt_size q) (Nat.lt_irrefl _)
  · exact hnew.at fun o q => k1 _ o q
  · exact ⟨rfl, hQ h' tk hd' fun b o b1 b2 b3 b4 q => k b o (Nat.ne_of_lt (Heap.lt_size q)) b1 b2 b3 b4 (k2 b o q)⟩
end
end PKZ
namespace PKZ
open PySem PySem.Spec PyProof.Rows L2
def rDictZip (K : PySem.W.Frag) : List V → Hp → VK → Prop := fun vs H Q => ∃ (a b : Addr) (ks : List Key) (ys : List V), vs = [.ref a, .ref b] ∧ Sq2 K H a (ks.map kV) ∧ Sq2 K H b ys ∧ min ks.length ys.length ≤ sizeLine ∧
  ∀ p, H p = none → Q (.ref p) (upd H p (.dK (mergeK [] (ks.zip ys))))
def tDictZip (K : PySem.W.Frag) (ta : TA) : TE := fun σ H Q => ta σ H fun vs H1 => rDictZip K vs H1 Q
theorem kv_zip {X : Cx} : ∀ {ks : List Key} {ys : List V} {ia ib : List Value}, Vals (ks.map kV) ia → Vals ys ib →
    ∃ prs : List (Key × Value), KV (ks.zip ys) prs ∧ min ia.length ib.length = prs.length ∧ ∀ (j : Nat) (q : Key × Value), prs[j]? = some q → ∃ u, ia[j]? = some u ∧ ib[j]? = some q.2 ∧ keyIs q.1 u = true
  | [], ys, ia, ib, va, vb => by
    cases va
    exact ⟨[], by rw [List.zip_nil_left]; exact .nil, by simp, fun j q e => by simp at e⟩
  | k :: ks, [], ia, ib, va, vb => by
    cases vb
    exact ⟨[], by rw [List.zip_nil_right]; exact .nil, by simp, fun j q e => by simp at e⟩
  | k :: ks, y :: ys, ia, ib, va, vb => by
    rw [List.map_cons] at va
    cases va with
    | cons r t => cases vb with
      | cons r2 t2 =>
        rename_i u us u2 us2
        obtain ⟨prs, k1, k2, k3⟩ := kv_zip (X := X) t t2
        refine ⟨(k, u2) :: prs, ?_, ?_, fun j q e => ?_⟩
        · rw [List.zip_cons_cons]
          exact .cons ⟨rfl, r2⟩ k1
        · rw [List.length_cons, List.length_cons, List.length_cons, ← k2]
          omega
        · cases j with
          | zero =>
            have e' : (k, u2) = q := Option.some.inj e
            subst e'
            exact ⟨u, rfl, rfl, kV_is (P := X.prog) (w := X.w) r⟩
          | succ j =>
            obtain ⟨b, e1, e2, e3⟩ := k3 j q (by simpa using e)
            exact ⟨b, by simpa using e1, by simpa using e2, e3⟩
/-- dict(zip(e, e2)) -/
theorem pe_dictZip {X : Cx} {e e2 : Expr} {ta : TA} {p p2 pos pos2 : Pos} (hc : X.calm = true) (hg : Gl X "dict") (hm : X.mg "dict" = none) (hv : bootBuiltins "dict" = some (.type "dict")) (hg2 : Gl X "zip") (hm2 : X.mg "zip" = none) (ha : PA X [e, e2] ta)
    (hs : starEach [.Call (.Name "zip" p2) [e, e2] [] pos2] X.env = (false, eval (.Call (.Name "zip" p2) [e, e2] [] pos2) X.env) :: starEach [] X.env := by rfl)
    (hs2 : starEach [e, e2] X.env = (false, eval e X.env) :: starEach [e2] X.env := by rfl) (hpl : (backTo pos2 (starEach [e2] X.env)).any (·.1) = false := by rfl) :
    PE X (.Call (.Name "dict" p) [.Call (.Name "zip" p2) [e, e2] [] pos2] [] pos) (tDictZip X.K ta) := by
  refine ⟨fun pins s σ H Q I hq => ?_⟩
  refine wpAny_Call_Name_kw (ld_blt I hg hm hv (PyProof.Rows.callWith_type1 ?_ hs rfl))
  rw [hs]
  show wpAny _ _ (spliced ((false, eval (.Call (.Name "zip" p2) [e, e2] [] pos2) X.env) :: backTo pos (starEach [] X.env))) _ _ s
  refine Calls.spliced_cons (Call_ (ld_blt I hg2 hm2 PyProof.Rows.boot_zip (PyProof.Rows.callWith_type1 (thn (ha.run pos2 pins s σ H _ I hq) fun us s1 ⟨vs, H1, I1, r1, q1⟩ => ?_) hs2 hpl)))
  obtain ⟨a, b, ks, ys, rfl, qa, qb, hmin, q⟩ := q1
  obtain ⟨u, us, rfl, ru, rr⟩ : ∃ u us', us = u :: us' ∧ RelV (V.ref a) u ∧ Vals [V.ref b] us' := by cases r1 with | cons r t => exact ⟨_, _, rfl, r, t⟩
  obtain ⟨u2, rfl, ru2⟩ : ∃ u2, us = [u2] ∧ RelV (V.ref b) u2 := by cases rr with | cons r t => cases t; exact ⟨_, rfl, r⟩
  obtain rfl : u = Value.ref a := ru
  obtain rfl : u2 = Value.ref b := ru2
  obtain ⟨ka, ia, va, sa⟩ := sq_of I1 qa
  obtain ⟨kb, ib, vb, sb⟩ := sq_of I1 qb
  have la := va.length
  rw [List.length_map] at la
  have lb := vb.length
  obtain ⟨prs, rel, hl, hpr⟩ := kv_zip (X := X) va vb
  have hlen : prs.length ≤ sizeLine := by rw [← hl, ← la, ← lb]; exact hmin
  refine call_zg sa sb fun g Z zo sz kp => Calls.spliced_nil ?_
  have hal := Kd.sq_lt sa
  have hbl := Kd.sq_lt sb
  have hS : s1.heap.objs.size ≤ g.objs.size := by rw [sz]; exact Nat.le_add_right _ _
  refine dz_call (s := { s1 with heap := g }) (prs := prs) (I1.ok.hd hc) (PySem.W.ktu_apart s1.heap.objs.size a b hal hbl) Z zo (Heap.lt_size Z.ti) (Nat.lt_of_lt_of_le hal hS) (Nat.lt_of_lt_of_le hbl hS) (fun j q e => ?_) (by rw [List.size_toArray, List.size_toArray]; exact hl) hlen fun h' tk hd' k => ?_
  · obtain ⟨u, e1, e2, e3⟩ := hpr j q e
    exact ⟨u, by simpa using e1, by simpa using e2, e3⟩
  · dsimp only at hd' k ⊢
    have hk : ∀ b o, s1.heap.get? b = some o → h'.get? b = some o := fun b o e => by
      have lt := Heap.lt_size e
      exact k b o (Nat.ne_of_lt (Nat.lt_of_lt_of_le lt (Nat.le_add_right _ _))) (Nat.ne_of_lt (Nat.lt_of_lt_of_le lt (Nat.le_add_right _ _))) (Nat.ne_of_lt lt) (Nat.ne_of_lt (Nat.lt_of_lt_of_le lt (Nat.le_add_right _ _))) (kp _ _ e)
    have nS : H1 g.objs.size = none := I1.hok.fresh hS
    have hm : (g.objs.size == sysModules) = false := beq_eq_false_iff_ne.mpr (Nat.ne_of_gt (Nat.lt_of_lt_of_le I1.big hS))
    have hz : (mergeK [] (ks.zip ys)).length ≤ sizeLine := by
      refine Nat.le_trans (length_mergeK _ []) ?_
      rw [List.length_nil, Nat.zero_add, rel.length]
      exact hlen
    exact ⟨.ref g.objs.size, upd H1 g.objs.size (.dK (mergeK [] (ks.zip ys))), I1.laid (t' := tk) hk hS (show ObjOk X.prog X.w _ _ _ (.dK (mergeK [] (ks.zip ys))) from ⟨hz, hm, merged [] prs, KV.merge rel .nil, hd'⟩), rfl, q _ nS⟩
end PKZ
/-! del xs[-m:], m from 1 to the length: the list's last m items go -/
namespace L2.PKR
open PySem PySem.Spec PyProof.Rows
theorem keep_first {sel : Nat → Bool} {a : Nat} : ∀ (its : List Value) (j : Nat), (∀ k, k < j + its.length → sel k = decide (a ≤ k)) →
    (its.zipIdx j).filterMap (fun p => if sel p.2 = true then none else some p.1) = its.take (a - j)
  | [], _, _ => by simp
  | x :: r, j, h => by
    have ih := keep_first r (j + 1) (fun k hk => h k (by rw [List.length_cons]; omega))
    have e := h j (by rw [List.length_cons]; omega)
    rw [List.zipIdx_cons]
    by_cases q : a ≤ j
    · rw [decide_eq_true q] at e
      rw [List.filterMap_cons_none (by simp only [e, if_true]), ih, show a - (j + 1) = 0 by omega, show a - j = 0 by omega, List.take_zero, List.take_zero]
    · rw [decide_eq_false q] at e
      rw [List.filterMap_cons_some (b := x) (by simp only [e]; rfl), ih, show a - j = (a - (j + 1)) + 1 by omega, List.take_succ_cons]
theorem tail_bounds {m n : Nat} (h : m ≤ n) (h0 : 0 < m) : sliceBounds (some (-(m : Int))) none none n = (((n - m : Nat) : Int), (n : Int), 1) := by
  simp only [sliceBounds, Option.getD_none]
  have h1 : (-(m : Int)) < 0 := by omega
  simp only [h1, if_true, show (1 : Int) > 0 by decide]
  congr 1
  omega
section
variable {prog : Program} {w : World} {A : Around} {E : Value → Shared → Prop} {s : Shared}
theorem del_tail {l sl : Addr} {its : List Value} {n m : Nat} {vl : Value} {Q : Unit → Shared → Prop} (e : s.heap.get? l = some { cls := .type "list", data := .seq its.toArray n }) (hs : s.heap.IsSliceOf sl vl .none .none)
    (pl : IsPart vl (some (-(m : Int)))) (h0 : 0 < m) (hm : m ≤ its.length) (hz : its.length ≤ sizeLine)
    (h : ∀ f : Array Value → Array Value, f its.toArray = (its.take (its.length - m)).toArray → Q () { s with heap := s.heap.update l (Obj.mapSeq f) }) : wpAny (model prog w) A (delItem (.ref l) (.ref sl)) Q E s := by
  have hl : s.heap.IsList l its.toArray := PySem.IsL.isList e
  obtain ⟨os, hos, hcs, hds⟩ := id hs
  have ty : s.TypeIs (.ref sl) "slice" := ⟨os, hos, hcs⟩
  refine wpAny_delItem_slot hl.typeIs (by decide) F.slot_list_delitem (wpAny_call_entry F.slot_list_delitem hl.typeIs F.entry_list_delitem ?_ (F.args_list_delitem_2 _ _))
  show wpAny _ _ (Builtin.List.listSubscript? (.ref sl) >>= _) _ _ s
  unfold Builtin.List.listSubscript?
  refine wpAny_bind (wpAny_bind (wpAny_specialOf ty slice_no_index ?_))
  simp only [Option.isNone_none, if_true]
  refine wpAny_pure ?_
  show wpAny _ _ (typeOf (.ref sl) >>= _) _ _ s
  refine wpAny_bind (wpAny_typeOf ty ?_)
  first | (rw [if_neg (by decide)]) | (refine PySem.W.KFB.if_not (by decide) ?_)
  rw [listSliceParts_eq]
  refine wpAny_bind (wpAny_bind (wpAny_field hos hds (x := .none) rfl (wpAny_bind (wpAny_listPart .none ?_)))); rw [if_neg (show ¬ ((rawPart none == rawInt 0) = true) from Bool.false_ne_true)]
  refine wpAny_bind (wpAny_field hos hds (x := vl) rfl (wpAny_bind (wpAny_listPart pl (wpAny_bind (wpAny_field hos hds (x := .none) rfl (wpAny_bind (wpAny_listPart .none (wpAny_pure ?_))))))))
  unfold Builtin.List.listItems
  refine wpAny_bind (wpAny_bind (wpAny_seqItems e rfl (wpAny_pure ?_)))
  refine wpAny_bind (wpAny_of_eq ((sliceIndices_raw (some (-(m : Int))) none none its.toArray.size (by simp)).trans (congrArg (pure : Int × Int × Int → Sem (Int × Int × Int)) (tail_bounds (n := its.toArray.size) (by simpa using hm) h0))) ?_)
  refine wpAny_bind (wpAny_rule ?_)
  have lt : its.toArray.size = its.length := List.size_toArray
  show wpAny _ _ (updateSeq l _ >>= _) _ _ _
  refine wpAny_bind (wpAny_updateSeq (hz := by rw [lt]; exact hz) (_hz' := ?fit) e rfl (wpAny_bind (wpAny_letGo (wpAny_pure ⟨.none, rfl, h _ (congrArg List.toArray ?same)⟩))))
  case fit =>
    rw [List.size_toArray]
    exact Nat.le_succ_of_le (Nat.le_trans (List.length_filterMap_le _ _) (by rw [List.length_zipIdx]; exact hz))
  case same =>
    refine (keep_first (a := its.length - m) its 0 fun k hk => ?_)
    show (if (1 : Int) > 0 then (decide (((its.toArray.size - m : Nat) : Int) ≤ (k : Int)) && decide ((k : Int) < (its.toArray.size : Int)) && (((k : Int) - ((its.toArray.size - m : Nat) : Int)) % 1 == 0)) else _) = _
    rw [if_pos (by decide), lt, Int.emod_one]
    have k2 : (k : Int) < (its.length : Int) := by omega
    rw [decide_eq_true k2, Bool.and_true]
    by_cases q : its.length - m ≤ k
    · rw [decide_eq_true q, decide_eq_true (show ((its.length - m : Nat) : Int) ≤ (k : Int) by omega)]; rfl
    · rw [decide_eq_false q, decide_eq_false (show ¬ ((its.length - m : Nat) : Int) ≤ (k : Int) by omega)]; rfl
end
def tDelTail (to ti : TE) : TS := fun D σ H => to σ H fun x H1 => ti σ H1 fun y H2 => ∃ (l : Addr) (xs : List V) (m : Nat), x = .ref l ∧ y = .int (-(m : Int)) ∧ H2 l = some (.lst xs) ∧ 0 < m ∧ m ≤ xs.length ∧ D.nx σ (upd H2 l (.lst (xs.take (xs.length - m))))
theorem ps_delTail {X : Cx} {o i : Expr} {to ti : TE} {p2 tpos pos : Pos} (ho : PE X o to) (hi : PE X i ti) : PS X (.Delete [.Subscript o (.Slice (some i) none none p2) tpos] pos) (tDelTail to ti) := by
  refine ⟨fun pins s σ H D I h => wpAny_Delete (wpAny_deleteEach_cons (wpAny_delete_Subscript (thn (ho.run pins s σ H _ I h) fun u s1 ⟨x, H1, I1, rx, q1⟩ => wpAny_Slice ?_)))⟩
  rw [evalPart_some]
  refine thn (hi.run pins s1 σ H1 _ I1 q1) fun v s2 ⟨y, H2, I2, ry, l, xs, m, ex, ey, hH, h0, hm, q2⟩ => ?_
  subst ex ey
  cases (show u = Value.ref l from rx)
  obtain ⟨t, rfl⟩ := (show ∃ t, v = Value.int (-(m : Int)) t from ry)
  rw [evalPart_none]
  refine wpAny_pure (wpAny_pure ?_)
  have I3 : Inv X pins σ H2 { s2 with heap := s2.heap.push { cls := .type "slice", data := .fields #[.int (-(m : Int)) t, .none, .none] } } := I2.kept (t' := s2.toks) fun b ob z => Heap.get?_push_of_some _ z
  obtain ⟨hz, its, n, r, hl, e⟩ := I3.lstM hH
  refine del_tail (m := m) e (Heap.IsSliceOf.new ..) (.int _ _) h0 (by omega) (by omega) fun f hf => wpAny_deleteEach_nil ⟨σ, _, I3.lset (its' := its.take (its.length - m)) (t' := s2.toks) hH e hf (by rw [← hl]; exact r.take _) (by rw [List.length_take]; omega), q2⟩
end L2.PKR
/-! What runs leaves every suspended generator alone that it could not have woken: shown by a run where those would come to nothing -/
namespace GenF
open PySem
def noGen (fs : List Frame) : Bool := fs.all fun F => match F with | .ret .. => true | .gen .. => false
def noGenE : End → Prop
  | .ret _ => True
  | .susp _ _ _ _ _ _ fs => noGen fs = true
def NoG : GenState → Prop
  | .suspended _ _ _ _ fs _ => noGen fs = true
  | _ => True
def IsSusp : GenState → Prop
  | .suspended .. => True
  | _ => False
/-- suspended where it was, but with nothing behind it -/
def pz : GenState → GenState
  | .suspended _ l c p fs cl => .suspended (fun _ => .unsupported "") l c p fs cl
  | x => x
abbrev Zs := Nat → Option GenState
def mixA (Z : Zs) (a : Array GenState) : Array GenState := a.mapIdx fun i x => (Z i).getD x
def mix (Z : Zs) (s : Shared) : Shared := { s with gens := mixA Z s.gens }
structure Good (Z : Zs) (a : Array GenState) : Prop where
  held : ∀ i x, Z i = some x → a[i]? = some (pz x) ∧ IsSusp x
  free : ∀ i x, Z i = none → a[i]? = some x → NoG x
theorem mixA_get {Z : Zs} {a : Array GenState} {i : Nat} : (mixA Z a)[i]? = a[i]?.map fun x => (Z i).getD x := by
  unfold mixA; rw [Array.getElem?_mapIdx]
theorem mixA_free {Z : Zs} {a : Array GenState} {i : Nat} (h : Z i = none) : (mixA Z a)[i]? = a[i]? := by
  rw [mixA_get, h]; simp
theorem mixA_held {Z : Zs} {a : Array GenState} {i : Nat} {x : GenState} (g : Good Z a) (h : Z i = some x) : (mixA Z a)[i]? = some x := by
  rw [mixA_get, (g.held i x h).1, h]; rfl
theorem mixA_size {Z : Zs} {a : Array GenState} : (mixA Z a).size = a.size := by unfold mixA; simp
theorem mixA_set {Z : Zs} {a : Array GenState} {g : Nat} {x : GenState} (h : Z g = none) : mixA Z (a.setIfInBounds g x) = (mixA Z a).setIfInBounds g x := by
  apply Array.ext_getElem?
  intro i
  rw [mixA_get, Array.getElem?_setIfInBounds, Array.getElem?_setIfInBounds, mixA_get, mixA_size]
  by_cases e : g = i
  · subst e
    rw [if_pos rfl, if_pos rfl, h]
    split <;> rfl
  · rw [if_neg e, if_neg e]
theorem mixA_push {Z : Zs} {a : Array GenState} {x : GenState} (h : Z a.size = none) : mixA Z (a.push x) = (mixA Z a).push x := by
  apply Array.ext_getElem?
  intro i
  rw [mixA_get, Array.getElem?_push, Array.getElem?_push, mixA_get, mixA_size]
  by_cases e : i = a.size
  · subst e
    rw [if_pos rfl, if_pos rfl]
    simp [h]
  · rw [if_neg e, if_neg e]
theorem Good.none_of {Z : Zs} {a : Array GenState} {i : Nat} {x : GenState} (g : Good Z a) (h : a[i]? = some x) (n : ∀ k l c p fs cl, x ≠ .suspended k l c p fs cl) : Z i = none := by
  cases e : Z i with
  | none => rfl
  | some y =>
    obtain ⟨h1, h2⟩ := g.held i y e
    rw [h] at h1
    cases y with
    | suspended k l c p fs cl => exact absurd (Option.some.inj h1) (n _ _ _ _ _ _)
    | _ => exact h2.elim
theorem Good.none_size {Z : Zs} {a : Array GenState} (g : Good Z a) : Z a.size = none := by
  cases e : Z a.size with
  | none => rfl
  | some y =>
    have h1 := (g.held _ y e).1
    rw [Array.getElem?_eq_none (Nat.le_refl _)] at h1
    cases h1
theorem Good.set {Z : Zs} {a : Array GenState} {i : Nat} {x : GenState} (g : Good Z a) (h : Z i = none) (n : NoG x) : Good Z (a.setIfInBounds i x) := by
  refine ⟨fun j y e => ⟨?_, (g.held j y e).2⟩, fun j y e q => ?_⟩
  · have : i ≠ j := fun q => by rw [q, e] at h; cases h
    rw [Array.getElem?_setIfInBounds, if_neg this]
    exact (g.held j y e).1
  · rw [Array.getElem?_setIfInBounds] at q
    by_cases q' : i = j
    · rw [if_pos q'] at q
      split at q
      · cases q; exact n
      · cases q
    · rw [if_neg q'] at q
      exact g.free j y e q
theorem Good.push {Z : Zs} {a : Array GenState} {x : GenState} (g : Good Z a) (n : NoG x) : Good Z (a.push x) := by
  refine ⟨fun j y e => ⟨?_, (g.held j y e).2⟩, fun j y e q => ?_⟩
  · have h1 := (g.held j y e).1
    rw [Array.getElem?_push, if_neg, h1]
    intro q
    rw [q, Array.getElem?_eq_none (Nat.le_refl _)] at h1
    cases h1
  · rw [Array.getElem?_push] at q
    split at q
    · cases q; exact n
    · exact g.free j y e q
theorem mix_set {Z : Zs} {s : Shared} {g : Nat} {x : GenState} (h : Z g = none) : mix Z (s.setGen g x) = (mix Z s).setGen g x := by
  show ({ s with gens := mixA Z (s.gens.setIfInBounds g x) } : Shared) = { s with gens := (mixA Z s.gens).setIfInBounds g x }
  rw [mixA_set h]
theorem noGen_split {fs : List Frame} (h : noGen fs = true) : splitAtGen fs = none := by
  induction fs with
  | nil => rfl
  | cons F r ih =>
    have h2 : noGen r = true := by
      unfold noGen at h ⊢; rw [List.all_cons, Bool.and_eq_true] at h; exact h.2
    cases F with
    | ret k hh g l c p kp => simp [splitAtGen, ih h2]
    | gen g k l c p => simp [noGen] at h
theorem noGen_cons {F : Frame} {fs : List Frame} (h : noGen (F :: fs) = true) : noGen fs = true := by
  unfold noGen at h ⊢; rw [List.all_cons, Bool.and_eq_true] at h; exact h.2
theorem noGen_app {a b : List Frame} (ha : noGen a = true) (hb : noGen b = true) : noGen (a ++ b) = true := by
  unfold noGen at *; rw [List.all_append, ha, hb]; rfl
theorem noG_end {e : End} (h : noGenE e) : NoG e.genState := by
  cases e with
  | ret r => trivial
  | susp v g l k c p fs => exact h
theorem runs_unsup {M : Model} {m : String} : ∀ {Γ : Ctx} {p : Pos} {t : Sem PySem.Fin} {fs : List Frame} {s s' : Shared} {e : End}, Runs M Γ p t fs s e s' → t = .unsupported m → False := by
  intro Γ p t fs s s' e h
  induction h <;> intro q <;> first | (cases q; done) | (rename_i ih _; exact ih q) | (rename_i ih; exact ih q) | skip
theorem runs_mix {M : Model} {Γ : Ctx} {p : Pos} {t : Sem PySem.Fin} {fs : List Frame} {s s' : Shared} {e : End} (h : Runs M Γ p t fs s e s') :
    ∀ Z : Zs, Good Z s.gens → noGen fs = true → Good Z s'.gens ∧ noGenE e ∧ Runs M Γ p t fs (mix Z s) e (mix Z s') := by
  induction h with
  | done => exact fun Z g n => ⟨g, trivial, .done⟩
  | raise => exact fun Z g n => ⟨g, trivial, .raise⟩
  | again q _ ih => exact fun Z g n => let ⟨a, b, c⟩ := ih Z g n; ⟨a, b, .again q c⟩
  | rule _ ih => exact fun Z g n => let ⟨a, b, c⟩ := ih Z g n; ⟨a, b, .rule c⟩
  | «at» _ ih => exact fun Z g n => let ⟨a, b, c⟩ := ih Z g n; ⟨a, b, .at c⟩
  | load q _ ih => exact fun Z g n => let ⟨a, b, c⟩ := ih Z g n; ⟨a, b, .load q c⟩
  | update q _ ih => exact fun Z g n => let ⟨a, b, c⟩ := ih Z g n; ⟨a, b, .update q c⟩
  | loadIfAlive _ ih => exact fun Z g n => let ⟨a, b, c⟩ := ih Z g n; ⟨a, b, .loadIfAlive c⟩
  | point _ ih => exact fun Z g n => let ⟨a, b, c⟩ := ih Z g n; ⟨a, b, .point c⟩
  | alloc _ ih => exact fun Z g n => let ⟨a, b, c⟩ := ih Z g n; ⟨a, b, .alloc c⟩
  | fresh _ ih => exact fun Z g n => let ⟨a, b, c⟩ := ih Z g n; ⟨a, b, .fresh c⟩
  | ask _ ih => exact fun Z g n => let ⟨a, b, c⟩ := ih Z g n; ⟨a, b, .ask c⟩
  | choose q _ ih => exact fun Z g n => let ⟨a, b, c⟩ := ih Z g n; ⟨a, b, .choose q c⟩
  | os _ ih => exact fun Z g n => let ⟨a, b, c⟩ := ih Z g n; ⟨a, b, .os c⟩
  | handled _ ih => exact fun Z g n => let ⟨a, b, c⟩ := ih Z g n; ⟨a, b, .handled c⟩
  | stack _ ih => exact fun Z g n => let ⟨a, b, c⟩ := ih Z g n; ⟨a, b, .stack c⟩
  | thread _ ih => exact fun Z g n => let ⟨a, b, c⟩ := ih Z g n; ⟨a, b, .thread c⟩
  | «yield» => exact fun Z g n => ⟨g, rfl, .yield⟩
  | @genState g0 st Γ p k s e s' q _ ih =>
    intro Z g n
    obtain ⟨a, b, c⟩ := ih Z g n
    cases ez : Z g0 with
    | none => exact ⟨a, b, .genState ((mixA_free ez).trans q) c⟩
    | some y =>
      have h1 := (g.held g0 y ez)
      rw [q] at h1
      refine ⟨a, b, .genState (st := y) (mixA_held g ez) ?_⟩
      rw [Option.some.inj h1.1] at c
      cases y with
      | suspended k l c p fs cl => exact c
      | _ => exact h1.2.elim
  | @newGen Γ p k s e s' c _ ih =>
    intro Z g n
    obtain ⟨a, b, r⟩ := ih Z (g.push trivial) n
    refine ⟨a, b, .newGen ?_⟩
    have e1 : (mix Z s).gens.size = s.gens.size := mixA_size
    rw [e1]
    have e2 : ({ (mix Z s) with gens := (mix Z s).gens.push (GenState.fresh c) } : Shared) = mix Z { s with gens := s.gens.push (GenState.fresh c) } := by
      show ({ s with gens := (mixA Z s.gens).push _ } : Shared) = { s with gens := mixA Z (s.gens.push _) }
      rw [mixA_push g.none_size]
    rw [e2]; exact r
  | call _ _ ih1 ih2 =>
    intro Z g n
    obtain ⟨a, _, r⟩ := ih1 Z g rfl
    obtain ⟨a2, b2, r2⟩ := ih2 Z a rfl
    exact ⟨a2, b2, .call r r2⟩
  | callSusp _ ih1 =>
    intro Z g n
    obtain ⟨a, b, r⟩ := ih1 Z g rfl
    exact ⟨a, noGen_app b rfl, .callSusp r⟩
  | @resumeFresh Γ p g0 l k s c e₁ s₁ e s' q _ qu _ ih1 ih2 =>
    intro Z g n
    have hz := g.none_of q (by intros; exact fun q => nomatch q)
    obtain ⟨a, b, r⟩ := ih1 Z (g.set hz trivial) rfl
    obtain ⟨a2, b2, r2⟩ := ih2 Z (a.set hz (noG_end b)) rfl
    rw [mix_set hz] at r r2
    exact ⟨a2, b2, .resumeFresh ((mixA_free hz).trans q) r qu r2⟩
  | @resumeSuspended Γ p g0 rr l k s k₀ l₀ c₀ p₀ fs cl e₁ s₁ e s' q r1 qu _ ih1 ih2 =>
    intro Z g n
    cases ez : Z g0 with
    | some y =>
      have h1 := (g.held g0 y ez)
      rw [q] at h1
      cases y with
      | suspended k l c p fs cl =>
        have hh := Option.some.inj h1.1
        cases hh
        exact (runs_unsup r1 rfl).elim
      | _ => exact h1.2.elim
    | none =>
      obtain ⟨a, b, r⟩ := ih1 Z (g.set ez trivial) (g.free g0 _ ez q)
      obtain ⟨a2, b2, r2⟩ := ih2 Z (a.set ez (noG_end b)) rfl
      rw [mix_set ez] at r r2
      exact ⟨a2, b2, .resumeSuspended ((mixA_free ez).trans q) r qu r2⟩
  | resumeJustStarted q v _ ih =>
    intro Z g n
    have hz := g.none_of q (by intros; exact fun q => nomatch q)
    obtain ⟨a, b, r⟩ := ih Z g rfl
    exact ⟨a, b, .resumeJustStarted ((mixA_free hz).trans q) v r⟩
  | resumeThrowFresh q _ ih =>
    intro Z g n
    have hz := g.none_of q (by intros; exact fun q => nomatch q)
    obtain ⟨a, b, r⟩ := ih Z (g.set hz trivial) rfl
    rw [mix_set hz] at r
    exact ⟨a, b, .resumeThrowFresh ((mixA_free hz).trans q) r⟩
  | resumeRunning q _ ih =>
    intro Z g n
    have hz := g.none_of q (by intros; exact fun q => nomatch q)
    obtain ⟨a, b, r⟩ := ih Z g rfl
    exact ⟨a, b, .resumeRunning ((mixA_free hz).trans q) r⟩
  | resumeFinished q _ ih =>
    intro Z g n
    have hz := g.none_of q (by intros; exact fun q => nomatch q)
    obtain ⟨a, b, r⟩ := ih Z g rfl
    exact ⟨a, b, .resumeFinished ((mixA_free hz).trans q) r⟩
  | segRet _ _ ih1 ih2 =>
    intro Z g n
    obtain ⟨a, b, r⟩ := ih1 Z g rfl
    obtain ⟨a2, b2, r2⟩ := ih2 Z a (noGen_cons n)
    exact ⟨a2, b2, .segRet r r2⟩
  | segGen _ _ ih1 ih2 =>
    intro Z g n
    simp [noGen] at n
  | segSuspOut q _ ih1 =>
    intro Z g n
    obtain ⟨a, b, r⟩ := ih1 Z g rfl
    exact ⟨a, noGen_app b n, .segSuspOut q r⟩
  | segSuspGen q _ _ _ ih1 ih2 =>
    intro Z g n
    rw [noGen_split n] at q
    cases q
/-- what a state is with every generator that is suspended in it barred -/
def barred (s : Shared) : Shared := { s with gens := s.gens.map pz }
def zs (s : Shared) : Zs := fun i => match s.gens[i]? with
  | some (.suspended k l c p fs cl) => some (.suspended k l c p fs cl)
  | _ => none
theorem zs_some {s : Shared} {i : Nat} {x : GenState} (h : s.gens[i]? = some x) (k : IsSusp x) : zs s i = some x := by
  unfold zs; rw [h]; cases x with
  | suspended => rfl
  | _ => exact k.elim
theorem zs_inv {s : Shared} {i : Nat} {x : GenState} (h : zs s i = some x) : s.gens[i]? = some x ∧ IsSusp x := by
  unfold zs at h
  cases e : s.gens[i]? with
  | none => rw [e] at h; cases h
  | some y =>
    rw [e] at h
    cases y with
    | suspended => cases h; exact ⟨rfl, trivial⟩
    | _ => cases h
theorem good_barred (s : Shared) : Good (zs s) (barred s).gens := by
  refine ⟨fun i x h => ?_, fun i x h q => ?_⟩
  · obtain ⟨a, b⟩ := zs_inv h
    refine ⟨?_, b⟩
    show (s.gens.map pz)[i]? = _
    rw [Array.getElem?_map, a]; rfl
  · have q' : (s.gens.map pz)[i]? = some x := q
    rw [Array.getElem?_map] at q'
    cases e : s.gens[i]? with
    | none => rw [e] at q'; cases q'
    | some y =>
      rw [e] at q'
      cases q'
      cases y with
      | suspended => rw [zs_some e trivial] at h; cases h
      | _ => trivial
theorem mix_barred (s : Shared) : mix (zs s) (barred s) = s := by
  show ({ s with gens := mixA (zs s) (s.gens.map pz) } : Shared) = s
  have : mixA (zs s) (s.gens.map pz) = s.gens := by
    apply Array.ext_getElem?
    intro i
    rw [mixA_get, Array.getElem?_map]
    cases e : s.gens[i]? with
    | none => rfl
    | some y =>
      cases y with
      | suspended => rw [zs_some e trivial]; rfl
      | fresh => simp [zs, e, pz]
      | running => simp [zs, e, pz]
      | finished => simp [zs, e, pz]
  rw [this]
end GenF
namespace GenF
open PySem
variable {M : Model} {Z : Zs}
theorem wpCode_mix {Γ : Ctx} {R : Result → Shared → Prop} {p : Pos} {s : Shared} (g : Good Z s.gens) (h : wpCode M Γ R p s) :
    wpCode M Γ (fun r s' => ∃ s1, s' = mix Z s1 ∧ Good Z s1.gens ∧ R r s1) p (mix Z s) := by
  obtain ⟨r, s1, h1, h2⟩ := h
  obtain ⟨a, b, c⟩ := runs_mix h1 Z g rfl
  exact ⟨r, mix Z s1, c, s1, rfl, a, h2⟩
theorem wakes_mix {Γ : Ctx} {p : Pos} {g0 : Nat} {r : Resume} {s s' : Shared} {res : GenResult} (g : Good Z s.gens) (h : Wakes M Γ p g0 r s res s') :
    Good Z s'.gens ∧ Wakes M Γ p g0 r (mix Z s) res (mix Z s') := by
  unfold Wakes at h ⊢
  cases q : s.gens[g0]? with
  | none => rw [q] at h; exact h.elim
  | some x =>
    rw [q] at h
    cases x with
    | fresh c =>
      have hz := g.none_of q (by intros; exact fun q => nomatch q)
      rw [show (mix Z s).gens[g0]? = _ from (mixA_free hz).trans q]
      cases r with
      | throw x =>
        obtain ⟨h1, h2⟩ := h
        subst h2
        exact ⟨g.set hz trivial, h1, by rw [mix_set hz]⟩
      | send v =>
        cases v with
        | none =>
          obtain ⟨e1, s1, h1, h2, h3, h4⟩ := h
          obtain ⟨a, b, c⟩ := runs_mix h1 Z (g.set hz trivial) rfl
          rw [mix_set hz] at c
          subst h4
          exact ⟨a.set hz (noG_end b), e1, mix Z s1, c, h2, h3, by rw [mix_set hz]⟩
        | _ =>
          obtain ⟨h1, h2⟩ := h
          subst h2
          exact ⟨g, h1, rfl⟩
    | suspended k l c p0 fs cl =>
      cases ez : Z g0 with
      | some y =>
        obtain ⟨e1, s1, h1, _⟩ := h
        have h2 := (g.held g0 y ez)
        rw [q] at h2
        cases y with
        | suspended k l c p fs cl =>
          have hh := Option.some.inj h2.1
          cases hh
          exact (runs_unsup h1 rfl).elim
        | _ => exact h2.2.elim
      | none =>
        rw [show (mix Z s).gens[g0]? = _ from (mixA_free ez).trans q]
        obtain ⟨e1, s1, h1, h2, h3, h4⟩ := h
        obtain ⟨a, b, c⟩ := runs_mix h1 Z (g.set ez trivial) (g.free g0 _ ez q)
        rw [mix_set ez] at c
        subst h4
        exact ⟨a.set ez (noG_end b), e1, mix Z s1, c, h2, h3, by rw [mix_set ez]⟩
    | running =>
      have hz := g.none_of q (by intros; exact fun q => nomatch q)
      rw [show (mix Z s).gens[g0]? = _ from (mixA_free hz).trans q]
      obtain ⟨h1, h2⟩ := h
      subst h2
      exact ⟨g, h1, rfl⟩
    | finished =>
      have hz := g.none_of q (by intros; exact fun q => nomatch q)
      rw [show (mix Z s).gens[g0]? = _ from (mixA_free hz).trans q]
      obtain ⟨h1, h2⟩ := h
      subst h2
      exact ⟨g, h1, rfl⟩
theorem wp_mix {α : Type} {Γ : Ctx} {Q : α → Pos → Shared → Prop} {E : Value → Pos → Shared → Prop} (t : Sem α) : ∀ {p : Pos} {s : Shared}, Good Z s.gens → Sem.wp M Γ t Q E p s →
    Sem.wp M Γ t (fun a p' s' => ∃ s1, s' = mix Z s1 ∧ Good Z s1.gens ∧ Q a p' s1) (fun e p' s' => ∃ s1, s' = mix Z s1 ∧ Good Z s1.gens ∧ E e p' s1) p (mix Z s) := by
  induction t with
  | pure a => intro p s g h; exact ⟨s, rfl, g, h⟩
  | raise e => intro p s g h; exact ⟨s, rfl, g, h⟩
  | unsupported => intro p s g h; exact h.elim
  | finish => intro p s g h; exact h.elim
  | rule tag k ih => intro p s g h; exact ih () g h
  | «at» p' k ih => intro p s g h; exact ih () g h
  | load a part k ih => intro p s g h; obtain ⟨o, h1, h2⟩ := h; exact ⟨o, h1, ih o g h2⟩
  | update a part f k ih => intro p s g h; obtain ⟨h1, h2⟩ := h; exact ⟨h1, ih () (s := { s with heap := s.heap.update a f }) g h2⟩
  | alloc o k ih => intro p s g h; exact ih _ (s := { s with heap := s.heap.push o }) g h
  | loadIfAlive a k ih => intro p s g h; exact ih _ g h
  | point l k ih => intro p s g h; exact ih () g h
  | register => intro p s g h; exact h.elim
  | fresh k ih => intro p s g h; exact ih _ (s := { s with toks := s.toks + 1 }) g h
  | ask k ih => intro p s g h; exact ih _ g h
  | choose src n k ih => intro p s g h; obtain ⟨h1, h2⟩ := h; exact ⟨h1, ih _ (s := { s with drawn := s.drawn.bump src }) g h2⟩
  | os q l k ih => intro p s g h; exact ih _ (s := { s with os := (Os.step s.os q).fst }) g h
  | call c hh gg l k ih =>
    intro p s g h
    rw [Sem.wp_call] at h ⊢
    obtain ⟨r, s1, h1, h2⟩ := wpCode_mix g h
    obtain ⟨s2, e, g2, h3⟩ := h2
    subst e
    exact ⟨r, _, h1, ih r g2 h3⟩
  | handled own k ih => intro p s g h; exact ih _ g h
  | newGen c k ih =>
    intro p s g h
    have := ih s.gens.size (s := { s with gens := s.gens.push (GenState.fresh c) }) (g.push trivial) h
    show Sem.wp M Γ (k (mix Z s).gens.size) _ _ p { (mix Z s) with gens := (mix Z s).gens.push (GenState.fresh c) }
    have e1 : (mix Z s).gens.size = s.gens.size := mixA_size
    rw [e1]
    have e2 : ({ (mix Z s) with gens := (mix Z s).gens.push (GenState.fresh c) } : Shared) = mix Z { s with gens := s.gens.push (GenState.fresh c) } := by
      show ({ s with gens := (mixA Z s.gens).push _ } : Shared) = { s with gens := mixA Z (s.gens.push _) }
      rw [mixA_push g.none_size]
    rw [e2]; exact this
  | genState g0 k ih =>
    intro p s g h
    obtain ⟨st, q, h2⟩ := h
    have c := ih st.seen g h2
    cases ez : Z g0 with
    | none => exact ⟨st, (mixA_free ez).trans q, c⟩
    | some y =>
      have h1 := (g.held g0 y ez)
      rw [q] at h1
      refine ⟨y, mixA_held g ez, ?_⟩
      rw [Option.some.inj h1.1] at c
      cases y with
      | suspended k l c p fs cl => exact c
      | _ => exact h1.2.elim
  | resume g0 r l k ih =>
    intro p s g h
    rw [Sem.wp_resume] at h ⊢
    obtain ⟨res, s1, h1, h2⟩ := h
    obtain ⟨a, b⟩ := wakes_mix g h1
    exact ⟨res, mix Z s1, b, ih res a h2⟩
  | «yield» => intro p s g h; exact h.elim
  | stack k ih => intro p s g h; exact ih _ g h
  | fork => intro p s g h; exact h.elim
  | thread k ih => intro p s g h; exact ih _ g h
  | await => intro p s g h; exact h.elim
/-- what runs from a state with its suspended generators barred runs from the state, and they are as they were -/
theorem wpAny_kept {α : Type} {A : Around} {t : Sem α} {Q : α → Shared → Prop} {E : Value → Shared → Prop} {s : Shared} (h : wpAny M A t Q E (barred s)) :
    wpAny M A t (fun a s' => ∃ s1, s' = mix (zs s) s1 ∧ Good (zs s) s1.gens ∧ Q a s1) (fun e s' => ∃ s1, s' = mix (zs s) s1 ∧ Good (zs s) s1.gens ∧ E e s1) s := by
  intro Γ p i
  have := wp_mix (Z := zs s) t (good_barred s) (h Γ p i)
  rw [mix_barred] at this
  exact this
theorem bare_pz {x : GenState} (h : x.bare = true) : (pz x).bare = true := by cases x <;> exact h
theorem bare_barred {s : Shared} (h : PyProof.Rows.AllBare s.gens) : PyProof.Rows.AllBare (barred s).gens := by
  intro y hy
  obtain ⟨x, hx, e⟩ := Array.mem_map.mp (show y ∈ s.gens.map pz from hy)
  rw [← e]; exact bare_pz (h x hx)
theorem bare_mix {s s1 : Shared} (h : PyProof.Rows.AllBare s.gens) (h1 : PyProof.Rows.AllBare s1.gens) : PyProof.Rows.AllBare (mix (zs s) s1).gens := by
  intro y hy
  obtain ⟨i, hi⟩ := Array.getElem?_of_mem hy
  rw [show (mix (zs s) s1).gens[i]? = _ from mixA_get] at hi
  cases e : s1.gens[i]? with
  | none => rw [e] at hi; cases hi
  | some x =>
    rw [e] at hi
    cases ez : zs s i with
    | none => rw [ez] at hi; cases hi; exact h1 _ (Array.mem_of_getElem? e)
    | some z => rw [ez] at hi; cases hi; exact h _ (Array.mem_of_getElem? (zs_inv ez).1)
theorem mix_gen {s s1 : Shared} {g : Nat} {x : GenState} (h : s.gens[g]? = some x) (k : IsSusp x) (g1 : Good (zs s) s1.gens) : (mix (zs s) s1).gens[g]? = some x :=
  mixA_held g1 (zs_some h k)
end GenF
/-! a generator that sleeps, as its consumer sees it -/
namespace GenF
open PySem PySem.Spec PyProof.Rows GenW L2
/-- the heap below n -/
def cutH (h : Heap) (n : Nat) : Heap := { h with objs := h.objs.extract 0 n }
theorem cutH_get {h : Heap} {n b : Nat} (hb : b < n) : (cutH h n).get? b = h.get? b := by
  have e : (h.objs.extract 0 n)[b]? = h.objs[b]? := by
    rw [Array.getElem?_extract]
    simp only [Nat.sub_zero, Nat.zero_add]
    by_cases q : b < h.objs.size
    · rw [if_pos (by omega)]
    · rw [if_neg (by omega), Array.getElem?_eq_none (by omega)]
  unfold Heap.get? cutH
  rw [e]
theorem cutH_size {h : Heap} {n : Nat} (hn : n ≤ h.objs.size) : (cutH h n).objs.size = n := by
  show (h.objs.extract 0 n).size = n
  rw [Array.size_extract]; omega
theorem cutH_of {h : Heap} {n b : Nat} {o : Obj} (e : (cutH h n).get? b = some o) : b < n ∧ h.get? b = some o := by
  have lt : b < n := by
    refine Nat.lt_of_lt_of_le (Heap.lt_size e) ?_
    show (h.objs.extract 0 n).size ≤ n
    rw [Array.size_extract]; omega
  exact ⟨lt, by rw [← cutH_get lt]; exact e⟩
/-- what the frame at F owns: itself, and what stands under x -/
def OwnF (x : Str) (h : Heap) (F b : Addr) : Prop := b = F ∨ ∃ m, h.Ns F m ∧ m x = some (.ref b)
theorem OwnF.at {x : Str} {h h' : Heap} {F b : Addr} (k : ∀ o, h.get? F = some o → h'.get? F = some o) (ex : ∃ o, h.get? F = some o) (q : OwnF x h' F b) : OwnF x h F b := by
  rcases q with q | ⟨m, ⟨o, es, ep, ho, r⟩, hm⟩
  · exact .inl q
  · obtain ⟨o', e'⟩ := ex
    have e2 := k o' e'
    rw [ho] at e2
    cases e2
    exact .inr ⟨m, ⟨o, es, ep, e', r⟩, hm⟩
/-- the tuples of H -/
def tupsOf (H : Hp) : Hp := fun b => match H b with
  | some (.tup xs) => some (.tup xs)
  | some (.frz _ (.tup xs)) => some (.tup xs)
  | _ => none
theorem tupsOf_inv {H : Hp} {b : Addr} {u : HO} (e : tupsOf H b = some u) : ∃ xs, u = .tup xs ∧ Rd H b (.tup xs) := by
  unfold tupsOf at e
  cases q : H b with
  | none => rw [q] at e; cases e
  | some v =>
    rw [q] at e
    cases v with
    | tup xs => cases e; exact ⟨xs, rfl, .inl q⟩
    | frz o v =>
      cases v with
      | tup xs => cases e; exact ⟨xs, rfl, .inr ⟨o, q⟩⟩
      | _ => cases e
    | _ => cases e
theorem tupsOf_rd {H : Hp} {b : Addr} {xs : List V} (r : Rd H b (.tup xs)) : tupsOf H b = some (.tup xs) := by
  unfold tupsOf
  rcases r with r | ⟨o, r⟩ <;> rw [r]
theorem tupsOf_none {H : Hp} {b : Addr} (e : H b = none) : tupsOf H b = none := by unfold tupsOf; rw [e]
/-- all tuples of H stand in H' -/
def TK (H H' : Hp) : Prop := ∀ b xs, Rd H b (.tup xs) → Rd H' b (.tup xs)
theorem TK.refl (H : Hp) : TK H H := fun _ _ r => r
theorem TK.trans {H H1 H2 : Hp} (a : TK H H1) (b : TK H1 H2) : TK H H2 := fun c xs r => b c xs (a c xs r)
theorem TK.sq {K : PySem.W.Frag} {H H' : Hp} (t : TK H H') : ∀ a xs, SqT K (tupsOf H) a xs → SqT K H' a xs := fun a xs s => by
  rcases s with (s | ⟨o, s⟩) | s
  · obtain ⟨ys, e, r⟩ := tupsOf_inv s
    cases e
    exact .inl (t a xs r)
  · obtain ⟨ys, e, _⟩ := tupsOf_inv s
    cases e
  · exact .inr s
/-- a generator of the program's own, made by its consumer: what stands fixed -/
structure Gs where
  P : Program
  w : World
  K : PySem.W.Frag
  base : Heap
  A : Around
  stk : List Env
  F : Addr
  a : Addr
  g : Nat
  go : Obj
  x : Str
  H1 : Hp
  n : Nat
  it : Nat → V → Prop
abbrev Gs.M (G : Gs) : Model := model G.P G.w
/-- what its waking asks -/
structure Wk (G : Gs) (own : List (Addr × Obj)) (s : Shared) : Prop where
  bare : AllBare s.gens
  bs : ∀ b o, G.base.get? b = some o → s.heap.get? b = some o
  funs : s.heap.FunFrames G.base G.stk
  own : ∀ p ∈ own, s.heap.get? p.1 = some p.2
  data : ∀ b xs, Rd G.H1 b (.tup xs) → ObjOk G.P G.w G.H1 s.heap b (.tup xs)
/-- what a piece of its run leaves -/
structure Stp (G : Gs) (s s1 : Shared) : Prop where
  os : s1.os = s.os
  bare : AllBare s1.gens
  keep : ∀ b o, s.heap.get? b = some o → ¬ OwnF G.x s.heap G.F b → b ∉ frs G.stk → s1.heap.get? b = some o
  slot : ∀ b o, s.heap.get? b = some o → b ∈ frs G.stk → ∃ sl, s1.heap.get? b = some { o with slots := sl }
  there : ∀ b o, s.heap.get? b = some o → ∃ o', s1.heap.get? b = some o'
structure OwnOk (G : Gs) (s : Shared) (own : List (Addr × Obj)) (s1 : Shared) : Prop where
  at_ : ∀ p ∈ own, s1.heap.get? p.1 = some p.2 ∧ ∀ v, p.2.data ≠ .cell v
  new : ∀ p ∈ own, OwnF G.x s.heap G.F p.1 ∨ s.heap.objs.size ≤ p.1 ∨ p.1 = G.a
  all : ∀ b, OwnF G.x s1.heap G.F b → b ∈ own.map (·.1)
  a : (G.a, G.go) ∈ own
def GYp (G : Gs) : Protocol := fun n s v s1 kap => ∃ x own, n + 1 ≤ G.n ∧ G.it (G.n - (n + 1)) x ∧ RelV x v ∧ Stp G s s1 ∧ OwnOk G s own s1 ∧ ∀ sn, Wk G own sn → kap (.send .none) sn ∧ kap (.send (.bool true)) sn
def GRe (G : Gs) : GenEnd := fun n s r s1 => ((r = .ok (.ret .none) ∨ r = .ok .next) ∧ n = 0 ∧ Stp G s s1) ∨ ∃ e, r = .error e ∧ False
/-- it sleeps; i items are out; fp: its objects -/
def Slp (G : Gs) (i : Nat) (fp : List Addr) (s : Shared) : Prop := ∃ gs own, s.gens[G.g]? = some gs ∧ fp = own.map (·.1) ∧ (G.a, G.go) ∈ own ∧ (∀ p ∈ own, s.heap.get? p.1 = some p.2 ∧ ∀ v, p.2.data ≠ .cell v) ∧ (∀ b, OwnF G.x s.heap G.F b → b ∈ fp) ∧ (i = 0 ∨ IsSusp gs) ∧
  ∀ sn, Wk G own sn → gs.Goes G.M G.A.in1 (GRe G) (GYp G) (G.n - i) (.send .none) sn
theorem Slp.mem {G : Gs} {i : Nat} {fp : List Addr} {s : Shared} (h : Slp G i fp s) : G.a ∈ fp := by
  obtain ⟨gs, own, _, e, m, _⟩ := h
  rw [e]; exact List.mem_map.mpr ⟨_, m, rfl⟩
theorem Slp.memF {G : Gs} {i : Nat} {fp : List Addr} {s : Shared} (h : Slp G i fp s) : G.F ∈ fp := by
  obtain ⟨gs, own, _, e, m, _, q, _⟩ := h
  exact q _ (.inl rfl)
theorem Slp.obj {G : Gs} {i : Nat} {fp : List Addr} {s : Shared} (h : Slp G i fp s) : ∀ b ∈ fp, ∃ o, s.heap.get? b = some o ∧ ∀ v, o.data ≠ .cell v := by
  obtain ⟨gs, own, _, e, m, q, _⟩ := h
  intro b hb
  rw [e] at hb
  obtain ⟨p, hp, rfl⟩ := List.mem_map.mp hb
  exact ⟨p.2, q p hp⟩
/-- what keeps its objects, and it in the table, keeps its sleep -/
theorem Slp.keep {G : Gs} {i : Nat} {fp : List Addr} {s s' : Shared} (h : Slp G i fp s) (k : ∀ b ∈ fp, ∀ o, s.heap.get? b = some o → s'.heap.get? b = some o) (kg : s'.gens = s.gens ∨ (0 < i ∧ ∀ (g : Nat) (x : GenState), s.gens[g]? = some x → IsSusp x → s'.gens[g]? = some x)) : Slp G i fp s' := by
  have hF := h.memF
  obtain ⟨oF, eF, _⟩ := h.obj _ hF
  obtain ⟨gs, own, h1, h2, h3, h4, h5, h6, h7⟩ := h
  refine ⟨gs, own, ?_, h2, h3, fun p hp => ⟨k _ (by rw [h2]; exact List.mem_map.mpr ⟨p, hp, rfl⟩) _ (h4 p hp).1, (h4 p hp).2⟩, fun b hb => h5 b (hb.at (k _ hF) ⟨oF, eF⟩), h6, h7⟩
  rcases kg with kg | ⟨hi, kg⟩
  · rw [kg]; exact h1
  · rcases h6 with h6 | h6
    · omega
    · exact kg _ _ h1 h6
theorem funs_slots {base h h' : Heap} : ∀ {l : List Env}, h.FunFrames base l → (∀ b ∈ frs l, ∀ o, h.get? b = some o → ∃ sl, h'.get? b = some { o with slots := sl }) → h'.FunFrames base l
  | [], _, _ => trivial
  | env :: r, ⟨hk, ⟨L, o, hf, hn, ho, hd⟩, hr⟩, q => by
    have hL : L ∈ frs (env :: r) := by unfold frs; rw [List.filterMap_cons, hf]; exact List.mem_cons_self
    obtain ⟨sl, e⟩ := q L hL o ho
    refine ⟨hk, ⟨L, _, hf, hn, e, hd⟩, funs_slots hr fun b hb => q b ?_⟩
    unfold frs
    rw [List.filterMap_cons, hf]
    exact List.mem_cons_of_mem _ hb
/-- the consumer's context is of this generator's -/
structure GOk (G : Gs) (X : Cx) : Prop where
  eP : X.prog = G.P
  ew : X.w = G.w
  eK : X.K = G.K
  eb : X.base = G.base
  eA : X.A = G.A
  es : X.stack = G.stk
  hd : G.A.handled = none
  room : G.A.depth < recursionLimit
  gen : ∀ h : Heap, h.get? G.a = some G.go → h.IsGen G.a G.g
section
variable {G : Gs} {X : Cx} {pins : List (Addr × Obj)} {σ : L2.St} {H : Hp} {s s1 : Shared} {fp : List Addr} {i : Nat}
theorem wk_of (O : GOk G X) (I : Inv X pins σ H s) (t : TK G.H1 H) {own : List (Addr × Obj)} {gs : GenState} (ho : ∀ p ∈ own, s.heap.get? p.1 = some p.2) (hb : AllBare (s.setGen G.g gs).gens) : Wk G own (s.setGen G.g gs) := by
  refine ⟨hb, fun b o e => I.bk b o (by rw [O.eb]; exact e), ?_, ho, fun b xs r => ?_⟩
  · have := I.stack
    rw [O.eb, O.es] at this
    exact this
  · have := (t b xs r).ok I.hok
    rw [O.eP, O.ew] at this
    exact this
/-- behind a piece of its run -/
theorem inv_stp (O : GOk G X) (I : Inv X pins σ H s) (hf : ∀ b ∈ fp, FpOk X pins H b) (ho : ∀ b, OwnF G.x s.heap G.F b → b ∈ fp) (q : Stp G s s1) {h' : Heap} (k : ∀ b o, s1.heap.get? b = some o → h'.get? b = some o) {gs : GenState} (hg : gs.bare = true) :
    Inv X pins σ H { s1.setGen G.g gs with heap := h' } := by
  refine I.call' (ch := fp) q.os ⟨fun b o e n hb hx => k _ _ (q.keep b o e (fun z => hx (ho b z)) (by rw [← O.es]; exact hb)), fun b o e n hb hx => ?_, fun _ _ _ n _ => n, fun b o e hx => ?_, fun _ _ e => e, fun _ _ _ e => e, fun b ps e => ⟨#[], by rw [e]; simp⟩⟩ (fun b u e => ?_) (allBare_setGen q.bare hg) fun b hb => ?_
  · obtain ⟨sl, e1⟩ := q.slot b o e (by rw [← O.es]; exact hb)
    exact ⟨sl, k _ _ e1⟩
  · obtain ⟨o', e1⟩ := q.there b o e
    exact ⟨o', k _ _ e1⟩
  · refine (I.hok b u e).stay (fun c v hc z => k _ _ ?_) (fun _ z => z) fun _ _ z => z
    have tr : ∃ u, H c = some u := by
      rcases hc with rfl | hc
      · exact ⟨u, e⟩
      · exact ⟨_, hc⟩
    obtain ⟨u', tr⟩ := tr
    refine q.keep c v z (fun y => ?_) fun y => ?_
    · have := (hf c (ho c y)).1
      rw [this] at tr; cases tr
    · have := I.stkFree c (by rw [O.es]; exact y)
      rw [this] at tr; cases tr
  · obtain ⟨_, f1, _, f3, f4, f5⟩ := hf b hb
    exact ⟨f3, f1, f4, f5⟩
theorem next_item {E : Value → Shared → Prop} (O : GOk G X) (I : Inv X pins σ H s) (hf : ∀ b ∈ fp, FpOk X pins H b) (st : Slp G i fp s) (hi : i < G.n) (t : TK G.H1 H) :
    wpAny (model X.prog X.w) X.A (pyNext (.ref G.a)) (fun r s1 => ∃ u x fp', r = some u ∧ Inv X pins σ H s1 ∧ RelV x u ∧ G.it i x ∧ Slp G (i + 1) fp' s1 ∧ ∀ b ∈ fp', FpOk X pins H b) E s := by
  obtain ⟨gs, own, h1, h2, h3, h4, h5, h6, h7⟩ := st
  obtain ⟨m, hm⟩ : ∃ m, G.n - i = m + 1 := ⟨G.n - i - 1, by omega⟩
  rw [hm] at h7
  have hgl : G.g < s.gens.size := (Array.getElem?_eq_some_iff.mp h1).1
  have hA : X.A.handled = none := by rw [O.eA]; exact O.hd
  have hgo := h7 _ (wk_of (gs := .running) O I t (fun p hp => (h4 p hp).1) (allBare_setGen I.bare rfl))
  rw [← O.eA] at hgo
  have hgo' : gs.Goes (model X.prog X.w) X.A.in1 (fun n s₀ r s₁ => ((r = .ok (.ret .none) ∨ r = .ok .next) ∧ (n = 0 ∧ Stp G s₀ s₁)) ∨ ∃ e, r = .error e ∧ False) (GYp G) (m + 1) (.send .none) (s.setGen G.g .running) := by
    rw [O.eP, O.ew]; exact hgo
  refine wpAny_gsz (n := G.g + 1) hgl (next_genG hA I.nolimit (by rw [O.eA]; exact O.room) (O.gen _ (h4 _ h3).1) h1 hgo' (fun v s₁ gs' hbare hY => ?_) (fun s₁ hp h' hk => ?_) fun e s₁ he => he.elim)
  · intro hsz
    obtain ⟨x, own', hn, hx, rv, sp, oo, kap⟩ := hY
    have sp' : Stp G s s₁ := ⟨sp.os, sp.bare, sp.keep, sp.slot, sp.there⟩
    have I1 : Inv X pins σ H (s₁.setGen G.g gs') := inv_stp (h' := s₁.heap) O I hf h5 sp' (fun _ _ e => e) hbare
    have hg1 : G.g < s₁.gens.size := by
      have q : (s₁.setGen G.g gs').gens.size = s₁.gens.size := setGen_size _ _ _
      have hsz' : G.g + 1 ≤ (s₁.setGen G.g gs').gens.size := hsz
      omega
    have hwk := wk_of (own := own') (gs := gs') O I1 t (fun p hp => (oo.at_ p hp).1) (allBare_setGen I1.bare hbare)
    have sus : IsSusp gs' := by
      have q := (kap _ hwk).2
      cases gs' with
      | suspended => trivial
      | fresh c =>
        obtain ⟨q, _⟩ := q
        cases q
      | running => exact q.elim
      | finished => exact q.elim
    have hx' : G.it i x := by
      have e : G.n - (m + 1 - 1 + 1) = i := by omega
      rw [e] at hx; exact hx
    refine ⟨v, x, own'.map (·.1), rfl, I1, rv, hx', ⟨gs', own', setGen_at hg1, rfl, oo.a, oo.at_, fun b hb => oo.all b hb, .inr sus, fun sn hw => ?_⟩, fun b hb => ?_⟩
    · have e : G.n - (i + 1) = m := by omega
      have q := (kap sn hw).1
      rw [e, ← O.eA]
      rw [O.eP, O.ew] at q
      exact q
    · obtain ⟨p, hp, rfl⟩ := List.mem_map.mp hb
      rcases oo.new p hp with q | q | q
      · exact hf _ (h5 _ q)
      · exact I.fpOk q (I.hok.fresh q)
      · rw [q]
        exact hf _ (by rw [h2]; exact List.mem_map.mpr ⟨_, h3, rfl⟩)
  · intro _
    exact absurd hp.1 (Nat.succ_ne_zero m)
theorem next_done {E : Value → Shared → Prop} (O : GOk G X) (I : Inv X pins σ H s) (hf : ∀ b ∈ fp, FpOk X pins H b) (st : Slp G i fp s) (hi : i = G.n) (t : TK G.H1 H) :
    wpAny (model X.prog X.w) X.A (pyNext (.ref G.a)) (fun r s1 => r = none ∧ Inv X pins σ H s1) E s := by
  obtain ⟨gs, own, h1, h2, h3, h4, h5, h6, h7⟩ := st
  have hm : G.n - i = 0 := by omega
  rw [hm] at h7
  have hA : X.A.handled = none := by rw [O.eA]; exact O.hd
  have hgo := h7 _ (wk_of (gs := .running) O I t (fun p hp => (h4 p hp).1) (allBare_setGen I.bare rfl))
  rw [← O.eA] at hgo
  have hgo' : gs.Goes (model X.prog X.w) X.A.in1 (fun n s₀ r s₁ => ((r = .ok (.ret .none) ∨ r = .ok .next) ∧ (n = 0 ∧ Stp G s₀ s₁)) ∨ ∃ e, r = .error e ∧ False) (GYp G) 0 (.send .none) (s.setGen G.g .running) := by
    rw [O.eP, O.ew]; exact hgo
  refine next_genG hA I.nolimit (by rw [O.eA]; exact O.room) (O.gen _ (h4 _ h3).1) h1 hgo' (fun v s₁ gs' hbare hY => ?_) (fun s₁ hp h' hk => ?_) fun e s₁ he => he.elim
  · obtain ⟨x, own', hn, hx, rv, sp, oo, kap⟩ := hY
    have sp' : Stp G s s₁ := ⟨sp.os, sp.bare, sp.keep, sp.slot, sp.there⟩
    have I1 : Inv X pins σ H (s₁.setGen G.g gs') := inv_stp (h' := s₁.heap) O I hf h5 sp' (fun _ _ e => e) hbare
    have hwk := wk_of (own := own') (gs := gs') O I1 t (fun p hp => (oo.at_ p hp).1) (allBare_setGen I1.bare hbare)
    exact (kap _ hwk).1.elim
  · obtain ⟨_, sp⟩ := hp
    have sp' : Stp G s s₁ := ⟨sp.os, sp.bare, sp.keep, sp.slot, sp.there⟩
    exact ⟨rfl, inv_stp (gs := .finished) O I hf h5 sp' hk rfl⟩
end
end GenF
/-! for, and a list comprehension, over a generator of the program's own -/
namespace GenF
open PySem PySem.Spec PyProof.Rows GenW L2
def Itg (G : Gs) : It := ⟨fun i H => i < G.n ∧ TK G.H1 H, fun i H x H' => H' = H ∧ G.it i x, fun i H => i = G.n ∧ TK G.H1 H⟩
def PIEG (X : Cx) (pins : List (Addr × Obj)) (σ : L2.St) (R : It → Hp → Prop) (v : Value) (s2 : Shared) : Prop :=
  ∃ (G : Gs) (fp : List Addr) (H2 : Hp), v = .ref G.a ∧ GOk G X ∧ Inv X pins σ H2 s2 ∧ Slp G 0 fp s2 ∧ (∀ b ∈ fp, FpOk X pins H2 b) ∧ R (Itg G) H2
structure PIG (X : Cx) (iter : Expr) (wi : TI) : Prop where
  run : ∀ (pins : List (Addr × Obj)) (s : Shared) (σ : L2.St) (H : Hp) (R : It → Hp → Prop), Inv X pins σ H s → wi σ H R →
    wpAny (model X.prog X.w) X.A (eval iter X.env) (fun v s1 => wpAny (model X.prog X.w) X.A (pyIter v) (PIEG X pins σ R) X.xe s1) X.xe s
section
variable {X : Cx} {pins : List (Addr × Obj)} {σ : L2.St} {H : Hp} {s s1 : Shared}
theorem inv_gens {gs : Array GenState} (I : Inv X pins σ H s) (hb : AllBare gs) : Inv X pins σ H { s with gens := gs } :=
  ⟨I.ok, I.os, hb, I.base, I.loc, I.cell, I.free, I.freeC, I.pin, I.hok, I.len⟩
theorem inv_barred (I : Inv X pins σ H s) : Inv X pins σ H (barred s) := inv_gens I (bare_barred I.bare)
theorem inv_mix (hb : AllBare s.gens) (I : Inv X pins σ H s1) : Inv X pins σ H (mix (zs s) s1) := inv_gens I (bare_mix hb I.bare)
theorem sp_mix {D : Ends} {f : Flow} (hb : AllBare s.gens) (h : SP X pins D f s1) : SP X pins D f (mix (zs s) s1) := by
  cases f with
  | next => obtain ⟨σ', H', I, q⟩ := h; exact ⟨σ', H', inv_mix hb I, q⟩
  | brk => obtain ⟨σ', H', I, q⟩ := h; exact ⟨σ', H', inv_mix hb I, q⟩
  | cont => obtain ⟨σ', H', I, q⟩ := h; exact ⟨σ', H', inv_mix hb I, q⟩
  | ret u => obtain ⟨v, σ', H', I, r, q⟩ := h; exact ⟨v, σ', H', inv_mix hb I, r, q⟩
/-- what sleeps in the table sleeps on -/
def GKp (s s' : Shared) : Prop := ∀ (g : Nat) (x : GenState), s.gens[g]? = some x → IsSusp x → s'.gens[g]? = some x
theorem GKp.trans {s s' s'' : Shared} (a : GKp s s') (b : GKp s' s'') : GKp s s'' := fun g x e k => b g x (a g x e k) k
/-- a piece that raises nothing, run while generators sleep -/
theorem kept_run {α : Type} {A : Around} {t : Sem α} {Q Q' : α → Shared → Prop} {E E' : Value → Shared → Prop} {M : Model} (hE : ∀ e s, ¬ E e s) (h : wpAny M A t Q E (barred s)) (hQ : ∀ a s1, Q a s1 → GKp s (mix (zs s) s1) → Q' a (mix (zs s) s1)) : wpAny M A t Q' E' s := by
  refine wpAny_mono (wpAny_kept h) (fun a s' ⟨s1, e, g, q⟩ => ?_) fun e s' ⟨s1, _, _, q⟩ => (hE _ _ q).elim
  subst e
  exact hQ a s1 q fun n x hx k => mix_gen hx k g
theorem gen_go {G : Gs} {tg : Expr} {u : Value} {M : Model} {A : Around} {E : Value → Shared → Prop} {Q : Unit → Shared → Prop} (hg : s.heap.IsGen G.a G.g) (h : Q () s) : wpAny M A (letOwnedTupleGo tg (.ref G.a) u) Q E s := by
  obtain ⟨o, nm, qn, ho, hc, hd, _⟩ := hg
  exact go_of ho hc hd (by decide) h
theorem Slp.gen {G : Gs} {i : Nat} {fp : List Addr} (O : GOk G X) (st : Slp G i fp s) : s.heap.IsGen G.a G.g := by
  obtain ⟨gs, own, h1, h2, h3, h4, _⟩ := st
  exact O.gen _ (h4 _ h3).1
/-- behind a turn: its objects were pinned -/
theorem slp_on {G : Gs} {i : Nat} {fp : List Addr} {s' : Shared} {pins2 : List (Addr × Obj)} {σ' : L2.St} {H' : Hp} (hi : 0 < i) (st : Slp G i fp s) (fr : ∀ b ∈ fp, FpOk X pins H b) (I : Inv X (pins2 ++ pinsAt fp s.heap) σ' H' s') (k : GKp s s') :
    Slp G i fp s' ∧ ∀ b ∈ fp, FpOk X pins H' b := by
  have pin : ∀ b ∈ fp, ∀ o, s.heap.get? b = some o → s'.heap.get? b = some o ∧ H' b = none := fun b hb o e =>
    let z := I.pin (b, o) (List.mem_append_right _ (List.mem_append_right _ (mem_pinsAt hb e)))
    ⟨z.1, z.2.1⟩
  refine ⟨st.keep (fun b hb o e => (pin b hb o e).1) (.inr ⟨hi, k⟩), fun b hb => ?_⟩
  obtain ⟨o, e, _⟩ := st.obj b hb
  exact ⟨(pin b hb o e).2, (fr b hb).2⟩
end
section
variable {X : Cx}
theorem ps_forG {tg iter : Expr} {body : List Stmt} {wi : TI} {g : TG} {tb : TS} {pos : Pos} (hx : X.xe = fun _ _ => False) (hi : PIG X iter wi) (hg : PG X tg g) (hb : PSs X body tb)
    (hs : ∀ x, foldedSetIterable iter X.env x = pure x := by intro _; rfl) : PS X (.For tg iter body [] pos) (tFor wi g tb) := by
  refine ⟨fun pins s σ H D I h => ?_⟩
  have nx : ∀ e s, ¬ X.xe e s := fun e s z => by rw [hx] at z; exact z
  have nv : ∀ {α : Type} {t : Sem α} {Q : α → Shared → Prop} {E : Value → Shared → Prop} {s : Shared}, wpAny (model X.prog X.w) X.A t Q X.xe s → wpAny (model X.prog X.w) X.A t Q E s := fun q => wpAny_mono q (fun _ _ z => z) fun e s z => (nx e s z).elim
  refine wpAny_For (thn (hi.run pins s σ H _ I h) fun v s1 h1 => thn h1 fun itv s2 h2 => ?_) hs
  obtain ⟨G, fp, H2, e, O, I2, st2, f2, W, ⟨m0, w0⟩, turn⟩ := h2
  subst e
  refine codeAny_forLoop_any (fun n s' => ∃ i fp σ' H', Inv X pins σ' H' s' ∧ Slp G i fp s' ∧ (∀ b ∈ fp, FpOk X pins H' b) ∧ W i n σ' H') ?_ m0 ⟨0, fp, σ, H2, I2, st2, f2, w0⟩
  rintro n s3 ⟨i, fp3, σ3, H3, I3, st3, fr3, w3⟩
  rcases turn i n σ3 H3 w3 with ⟨⟨he, tk⟩, qn⟩ | ⟨⟨hl, tk⟩, N, hN, step⟩
  · refine nv (thn (next_done O I3 fr3 st3 he tk) fun r s4 ⟨hr, I4⟩ => ?_)
    subst hr
    exact wpAny_execs_nil ⟨σ3, H3, I4, qn⟩
  · refine nv (thn (next_item O I3 fr3 st3 hl tk) fun r s4 ⟨u, x, fp4, hr, I4, rx, hx4, st4, fr4⟩ => ?_)
    subst hr
    refine gen_go (st4.gen O) ?_
    have I5 := I4.pinned fr4 st4.obj
    refine kept_run nx (hg.run _ _ σ3 H3 x u _ (inv_barred I5) rx (step x H3 ⟨rfl, hx4⟩)) fun _ s5 ⟨σ6, H6, I6, q6⟩ k6 => ?_
    have I6' := inv_mix I5.bare I6
    refine kept_run nx (hb.run _ _ σ6 H6 _ (inv_barred I6') q6) fun f s7 q7 k7 => ?_
    have q7' := sp_mix (s := mix (zs s4) s5) I6'.bare q7
    have kk := k6.trans k7
    have again : ∀ {σ7 : L2.St} {H7 : Hp}, Inv X (pins ++ pinsAt fp4 s4.heap) σ7 H7 (mix (zs (mix (zs s4) s5)) s7) → N σ7 H7 → ∃ m, m < n ∧ ∃ i fp σ' H', Inv X pins σ' H' (mix (zs (mix (zs s4) s5)) s7) ∧ Slp G i fp (mix (zs (mix (zs s4) s5)) s7) ∧ (∀ b ∈ fp, FpOk X pins H' b) ∧ W i m σ' H' := fun {σ7 H7} I7 n7 => by
      obtain ⟨m', hm, w7⟩ := hN σ7 H7 n7
      obtain ⟨st7, fr7⟩ := slp_on (Nat.succ_pos i) st4 fr4 I7 kk
      exact ⟨m', hm, i + 1, fp4, σ7, H7, I7.unpinned, st7, fr7, w7⟩
    cases f with
    | next => obtain ⟨σ7, H7, I7, n7⟩ := q7'; exact again I7 n7
    | cont => obtain ⟨σ7, H7, I7, n7⟩ := q7'; exact again I7 n7
    | brk => obtain ⟨σ7, H7, I7, q7⟩ := q7'; exact ⟨σ7, H7, I7.unpinned, q7⟩
    | ret v => obtain ⟨x7, σ7, H7, I7, r7, q7⟩ := q7'; exact ⟨x7, σ7, H7, I7.unpinned, r7, q7⟩
theorem lc_coreG {pins : List (Addr × Obj)} {s : Shared} {σ : L2.St} {H : Hp} {Q : VK} {elt tg iter : Expr} {ifs : List Expr} {scope : Scope} {own : List (Str × Nat)} {pos pos' : Pos} {wi : TI} {g : TG} {tt : TT} {te : TE} {use : Option (Value → Sem Unit)} {Qf : Value → Shared → Prop}
    (hN : X.N.Nodup) (I : Inv X pins σ H s) (hi : PIG X iter wi) (ok : BlkOk X.N X.env.scope scope own)
    (hg : ∀ (s : Shared) (H : Hp) (C : Addr) (cl : List (Str × Addr)) (fp : List Addr), PG (X.blk s H scope (compEnvC scope cl C X.env) fp) tg g)
    (ht : ∀ (s : Shared) (H : Hp) (C : Addr) (cl : List (Str × Addr)) (fp : List Addr), PTs (X.blk s H scope (compEnvC scope cl C X.env) fp) ifs tt)
    (he : ∀ (s : Shared) (H : Hp) (C : Addr) (cl : List (Str × Addr)) (fp : List Addr), PE (X.blk s H scope (compEnvC scope cl C X.env) fp) elt te)
    (hs : ∀ x, foldedSetIterable iter X.env x = pure x) (h : tLc wi g tt te (own.map (·.2)) σ H Q)
    (hRR : ∀ D C s' m H', Inv X pins σ H' s' → Q (.ref D) H' → s'.heap.Ns C m → FpOk X pins H' C → compPost (model X.prog X.w) X.A X.xe use Qf (.ref D) C (.ok .next) s') :
    wpAny (model X.prog X.w) X.A (comprehension (.ListComp elt [⟨tg, iter, ifs, 0⟩] scope pos) scope X.env pos' (newList []) false (eval iter X.env) use) Qf X.xe s := by
  have hfree : ∀ y ∈ scope.names, y.2 = .free → ∃ c, X.env.cells.lookup y.1 = some c := fun y hy e => (ok.free y hy e).elim (fun k => I.ok.has _ (.inl k)) fun k => I.ok.has _ (.inr k)
  refine wpAny_comprehension_free (use := use) rfl hs (closure_ok hfree) ok.kind (fun y hy e => by rw [ok.uniq y hy, e]) (thn (hi.run pins s σ H _ I h) fun xv s1 h1 => thn h1 fun itv s2 h2 => ?_)
  obtain ⟨G, fp, H2, e, O, I2, st2, f2, q⟩ := h2
  subst e
  refine wpAny_newObj_type (newEnv_comp ?_) (by show 0 ≤ sizeLine; decide)
  generalize hD : s2.heap.objs.size = D
  obtain ⟨W, ⟨m0, w0⟩, turn⟩ := q D (I2.hok.fresh (Nat.le_of_eq hD))
  generalize hs3 : ({ s2 with heap := s2.heap.push { cls := .type "list", data := .seq ([] : List Value).toArray } } : Shared) = s3
  have h3 : s3.heap = s2.heap.push { cls := .type "list", data := .seq ([] : List Value).toArray } := by rw [← hs3]
  have I3 : Inv X pins σ (upd H2 D (.lst [])) s3 := by
    rw [← hs3]
    refine I2.laid (t' := s2.toks) (fun b o e => Heap.get?_push_of_some _ e) (Nat.le_of_eq hD) ⟨Nat.zero_le _, [], 0, .nil, ?_⟩
    rw [← hD]
    exact Heap.get?_push_size _ rfl
  have f3 : ∀ b ∈ fp, FpOk X pins (upd H2 D (.lst [])) b ∧ b < s3.heap.objs.size := fun b hb => by
    obtain ⟨o, e, _⟩ := st2.obj b hb
    have hlt := Heap.lt_size e
    refine ⟨⟨?_, (f2 b hb).2⟩, by rw [h3, Heap.size_push]; exact Nat.lt_succ_of_lt hlt⟩
    rw [upd_ne (by rw [← hD]; exact Nat.ne_of_lt hlt)]
    exact (f2 b hb).1
  have st3 : Slp G 0 fp s3 := st2.keep (fun b _ o e => by rw [h3]; exact Heap.get?_push_of_some _ e) (.inl (by rw [← hs3]))
  have I4 := block_start I3 ok hN f3
  have pg := hg s3 (upd H2 D (.lst [])) s3.heap.objs.size (cellsFrom (s3.heap.objs.size + 1) scope.names (cloFrom X.env.cells scope.names [])) fp
  have pt := ht s3 (upd H2 D (.lst [])) s3.heap.objs.size (cellsFrom (s3.heap.objs.size + 1) scope.names (cloFrom X.env.cells scope.names [])) fp
  have pe := he s3 (upd H2 D (.lst [])) s3.heap.objs.size (cellsFrom (s3.heap.objs.size + 1) scope.names (cloFrom X.env.cells scope.names [])) fp
  show codeAny _ _ (.compStart (.ListComp elt [⟨tg, iter, ifs, 0⟩] scope pos) 0 (.ref G.a) (.ref D) (compEnvC scope (cellsFrom (s3.heap.objs.size + 1) scope.names (cloFrom X.env.cells scope.names [])) s3.heap.objs.size X.env)) (compPost (model X.prog X.w) X.A X.xe use Qf (.ref D) s3.heap.objs.size) { s3 with heap := pushCells (s3.heap.push { cls := .type "dict", data := .dict #[] }) scope.names }
  generalize hce : compEnvC scope (cellsFrom (s3.heap.objs.size + 1) scope.names (cloFrom X.env.cells scope.names [])) s3.heap.objs.size X.env = ce at I4 pg pt pe ⊢
  have cL : ce.locals = s3.heap.objs.size := by subst hce; rfl
  generalize hH3 : upd H2 D (.lst []) = H3 at I3 I4 pg pt pe w0 f3
  generalize hs4 : ({ s3 with heap := pushCells (s3.heap.push { cls := .type "dict", data := .dict #[] }) scope.names } : Shared) = s4 at I4 ⊢
  have st4 : Slp G 0 fp s4 := st3.keep (fun b _ o e => by rw [← hs4]; exact pushCells_keeps _ _ _ _ (Heap.get?_push_of_some _ e)) (.inl (by rw [← hs4]))
  have OB : GOk G (X.blk s3 H3 scope ce fp) := ⟨O.eP, O.ew, O.eK, O.eb, O.eA, O.es, O.hd, O.room, O.gen⟩
  have f4 : ∀ b ∈ fp, FpOk (X.blk s3 H3 scope ce fp) [] H3 b := fun b hb => ⟨(f3 b hb).1.1, (I4.ok.exf b hb).1, I4.ok.exfs b hb, .inl hb, fun x c e => (I4.ok.exf b hb).2 x c e, fun p hp => absurd (show p ∈ ([] : List (Addr × Obj)) ++ [] from hp) (by simp)⟩
  have nx : ∀ (e : Value) (s : Shared), ¬ (X.blk s3 H3 scope ce fp).xe e s := fun _ _ z => z
  have loop : codeAny (model X.prog X.w) X.A (.compLoop (.ListComp elt [⟨tg, iter, ifs, 0⟩] scope pos) 0 (.ref G.a) (.ref D) ce) (compPost (model X.prog X.w) X.A X.xe use Qf (.ref D) s3.heap.objs.size) s4 := by
    refine compLoop_any (fun n s' => ∃ i fq H', Inv (X.blk s3 H3 scope ce fp) [] (wipe σ (own.map (·.2))) H' s' ∧ Slp G i fq s' ∧ (∀ b ∈ fq, FpOk (X.blk s3 H3 scope ce fp) [] H' b) ∧ W i n H') ?_ m0 ⟨0, fp, H3, I4, st4, f4, w0⟩
    rintro n s5 ⟨i, fq, H5, I5, st5, f5, w5⟩
    rcases turn i n H5 w5 with ⟨⟨hend, tk⟩, qq⟩ | ⟨⟨hl, tk⟩, Nx, hNx, step⟩
    · refine thnF (next_done (X := X.blk s3 H3 scope ce fp) (E := fun _ _ => False) OB I5 f5 st5 hend tk) fun r s6 ⟨hr, I6⟩ => ?_
      subst hr
      have I7 : Inv X pins σ H5 s6 := I3.call' (ch := fp) I6.os I6.base I6.hok I6.bare fun b hb => ⟨(f3 b hb).1.2.2.2.1, (f3 b hb).1.2.1, (f3 b hb).1.2.2.2.2.1, (f3 b hb).1.2.2.2.2.2⟩
      have nC : H5 s3.heap.objs.size = none := by
        have z : H5 ce.locals = none := I6.free
        rw [cL] at z
        exact z
      obtain ⟨m, hn, _⟩ := I6.loc
      have hn : s6.heap.Ns ce.locals m := hn
      rw [cL] at hn
      exact hRR D s3.heap.objs.size s6 m H5 I7 qq hn (I3.fpOk (Nat.le_refl _) nC)
    · refine thnF (next_item (X := X.blk s3 H3 scope ce fp) (E := fun _ _ => False) OB I5 f5 st5 hl tk) fun r s6 ⟨u, x, fp6, hr, I6, rx, hx6, st6, f6⟩ => ?_
      subst hr
      refine gen_go (st6.gen OB) ?_
      have I7 := I6.pinned f6 st6.obj
      refine kept_run nx (pg.run _ _ _ H5 x u _ (inv_barred I7) rx (step x H5 ⟨rfl, hx6⟩)) fun _ s7 ⟨σ8, H8, I8, hw8, q8⟩ k8 => ?_
      have I8' := inv_mix I7.bare I8
      refine kept_run nx (pt.run _ _ σ8 H8 _ (inv_barred I8') q8) fun b s8 ⟨H9, I9, q9⟩ k9 => ?_
      have I9' := inv_mix I8'.bare I9
      have k9' := k8.trans k9
      have fin : ∀ {s' : Shared} {H' : Hp}, Inv (X.blk s3 H3 scope ce fp) ([] ++ pinsAt fp6 s6.heap) σ8 H' s' → GKp s6 s' → Nx H' → ∃ m, m < n ∧ ∃ i fq H', Inv (X.blk s3 H3 scope ce fp) [] (wipe σ (own.map (·.2))) H' s' ∧ Slp G i fq s' ∧ (∀ b ∈ fq, FpOk (X.blk s3 H3 scope ce fp) [] H' b) ∧ W i m H' := fun {s' H'} I' k' nxt => by
        obtain ⟨m', hm, w'⟩ := hNx H' nxt
        obtain ⟨st', f'⟩ := slp_on (Nat.succ_pos i) st6 f6 I' k'
        have hl : (wipe σ (own.map (·.2))).length = σ8.length := by rw [← hw8, wipe_length]
        refine ⟨m', hm, i + 1, fp6, H', (I'.unpinned (pins := [])).weak hl (fun j v e => ?_), st', f', w'⟩
        rw [← hw8] at e
        exact (wipe_some e).1
      cases b with
      | false =>
        simp only [Bool.false_eq_true, if_false] at q9 ⊢
        exact fin I9' k9' q9
      | true =>
        simp only [if_true] at q9 ⊢
        refine kept_run nx (pe.run _ _ σ8 H9 _ (inv_barred I9') q9) fun z s9 ⟨yv, H10, I10, r10, acc, hD10, hz10, nxt⟩ k10 => ?_
        have I10' := inv_mix I9'.bare I10
        refine kept_run (E := fun _ _ => False) (fun _ _ z => z) (app_ok (X := X.blk s3 H3 scope ce fp) (Q := fun _ s' => ∃ H', Inv (X.blk s3 H3 scope ce fp) ([] ++ pinsAt fp6 s6.heap) σ8 H' s' ∧ Nx H') (inv_barred I10') hD10 hz10 r10 fun s11 I11 => ⟨_, I11, nxt⟩) fun _ s10 ⟨H11, I11, n11⟩ k11 => ?_
        exact fin (inv_mix I10'.bare I11) ((k9'.trans k10).trans k11) n11
  exact codeAny_compStart_list loop (wpAny_pyIter_gen (st4.gen OB) loop)
theorem pe_lcG {elt tg iter : Expr} {ifs : List Expr} {scope : Scope} {own : List (Str × Nat)} {pos : Pos} {wi : TI} {g : TG} {tt : TT} {te : TE} (hN : X.N.Nodup) (hi : PIG X iter wi) (ok : BlkOk X.N X.env.scope scope own)
    (hg : ∀ (s : Shared) (H : Hp) (C : Addr) (cl : List (Str × Addr)) (fp : List Addr), PG (X.blk s H scope (compEnvC scope cl C X.env) fp) tg g)
    (ht : ∀ (s : Shared) (H : Hp) (C : Addr) (cl : List (Str × Addr)) (fp : List Addr), PTs (X.blk s H scope (compEnvC scope cl C X.env) fp) ifs tt)
    (he : ∀ (s : Shared) (H : Hp) (C : Addr) (cl : List (Str × Addr)) (fp : List Addr), PE (X.blk s H scope (compEnvC scope cl C X.env) fp) elt te) (hs : ∀ x, foldedSetIterable iter X.env x = pure x := by intro _; rfl) :
    PE X (.ListComp elt [⟨tg, iter, ifs, 0⟩] scope pos) (tLc wi g tt te (own.map (·.2))) := by
  refine ⟨fun pins s σ H Q I h => ?_⟩
  rw [eval_ListComp]
  refine lc_coreG hN I hi ok hg ht he hs h fun D C s' m H' I' q hn f => ⟨m, hn, fun h'' sb => ?_⟩
  obtain ⟨f0, f1, f2, f3, f4, f5⟩ := f
  exact ⟨.ref D, H', I'.turned (t' := s'.toks) (fun b o hb e => (sb.2 b hb).trans e) f0 f1 f3 f4 f5, rfl, q⟩
end
end GenF
/-! how an own generator is made, and woken -/
namespace GenF
open PySem PySem.Spec PyProof.Rows GenW L2
/-- what stands fixed, as the generator's side sees it -/
structure GStat (G : Gs) (mg : Str → Option Value) : Prop where
  mod : Mod G.K mg G.base
  bsz : G.base.objs.size ≤ G.F
  bnt : ∀ b o, G.base.get? b = some o → G.H1 b = none
  stk : ∀ b ∈ frs G.stk, b < G.F ∧ G.H1 b = none
  frames : G.A.frames = some G.stk
  hd : G.A.handled = none
  tup : ∀ b xs, Rd G.H1 b (.tup xs) → b < G.F
  Fa : G.F < G.a
  goc : ∀ v, G.go.data ≠ .cell v
/-- the generator's view: the tuples it may read, and all that is younger than its frame, as they stand -/
def Hw0 (G : Gs) (sn : Shared) : Hp := fun b =>
  if b < G.F then (match tupsOf G.H1 b, sn.heap.get? b with
    | some (.tup xs), some o => some (.frz o (.tup xs))
    | _, _ => none)
  else if b = G.F then none else (sn.heap.get? b).map fun o => .frz o (.own b)
theorem Hw0_none {G : Gs} {sn : Shared} {b : Addr} (lt : b < G.F) (e : G.H1 b = none) : Hw0 G sn b = none := by
  unfold Hw0
  rw [if_pos lt, tupsOf_none e]
theorem Hw0_F {G : Gs} {sn : Shared} : Hw0 G sn G.F = none := by
  unfold Hw0
  rw [if_neg (Nat.lt_irrefl _), if_pos rfl]
theorem Hw0_up {G : Gs} {sn : Shared} {b : Addr} {o : Obj} (lt : G.F < b) (e : sn.heap.get? b = some o) : Hw0 G sn b = some (.frz o (.own b)) := by
  unfold Hw0
  rw [if_neg (Nat.lt_asymm lt), if_neg (Nat.ne_of_gt lt), e]; rfl
theorem Hw0_upn {G : Gs} {sn : Shared} {b : Addr} (lt : G.F < b) (e : sn.heap.get? b = none) : Hw0 G sn b = none := by
  unfold Hw0
  rw [if_neg (Nat.lt_asymm lt), if_neg (Nat.ne_of_gt lt), e]; rfl
theorem Hw0_lt {G : Gs} {sn : Shared} {b : Addr} {u : HO} (lt : b < G.F) (e : Hw0 G sn b = some u) : ∃ xs o, u = .frz o (.tup xs) ∧ Rd G.H1 b (.tup xs) ∧ sn.heap.get? b = some o := by
  unfold Hw0 at e
  rw [if_pos lt] at e
  cases q : tupsOf G.H1 b with
  | none => rw [q] at e; cases e
  | some v =>
    obtain ⟨xs, rfl, r⟩ := tupsOf_inv q
    rw [q] at e
    cases q2 : sn.heap.get? b with
    | none => rw [q2] at e; cases e
    | some o => rw [q2] at e; cases e; exact ⟨xs, o, rfl, r, rfl⟩
theorem Hw0_ok {G : Gs} {own : List (Addr × Obj)} {sn : Shared} (W : Wk G own sn) : HOk G.P G.w (Hw0 G sn) sn.heap := fun b u e => by
  by_cases lt : b < G.F
  · obtain ⟨xs, o, rfl, r, e2⟩ := Hw0_lt lt e
    exact ⟨e2, W.data b xs r⟩
  · by_cases eq : b = G.F
    · rw [eq, Hw0_F] at e; cases e
    · have gt : G.F < b := Nat.lt_of_le_of_ne (Nat.le_of_not_lt lt) (Ne.symm eq)
      cases q : sn.heap.get? b with
      | none => rw [Hw0_upn gt q] at e; cases e
      | some o => rw [Hw0_up gt q] at e; cases e; exact ⟨q, _, q⟩
/-- the tuples are read in it -/
theorem Hw0_sq {G : Gs} {mg : Str → Option Value} {own : List (Addr × Obj)} {sn : Shared} (S : GStat G mg) (W : Wk G own sn) : ∀ a xs, SqT G.K (tupsOf G.H1) a xs → SqT G.K (Hw0 G sn) a xs := fun a xs s => by
  rcases s with (s | ⟨o, s⟩) | s
  · obtain ⟨ys, e, r⟩ := tupsOf_inv s
    cases e
    obtain ⟨_, its, _, o, ho, _⟩ := W.data a xs r
    refine .inl (.inr ⟨o, ?_⟩)
    unfold Hw0
    rw [if_pos (S.tup a xs r), tupsOf_rd r, ho]
  · obtain ⟨ys, e, _⟩ := tupsOf_inv s
    cases e
  · exact .inr s
/-- .. and back -/
theorem Hw0_qs {G : Gs} {mg : Str → Option Value} {sn : Shared} : ∀ a xs, (Hw0 G sn a = some (.tup xs) ∨ ∃ o, Hw0 G sn a = some (.frz o (.tup xs))) → tupsOf G.H1 a = some (.tup xs) := fun a xs s => by
  have low : ∀ u, Hw0 G sn a = some u → (∀ o b, u ≠ .frz o (.own b)) → a < G.F := fun u e n => by
    by_cases lt : a < G.F
    · exact lt
    · by_cases eq : a = G.F
      · rw [eq, Hw0_F] at e; cases e
      · have gt : G.F < a := Nat.lt_of_le_of_ne (Nat.le_of_not_lt lt) (Ne.symm eq)
        cases q : sn.heap.get? a with
        | none => rw [Hw0_upn gt q] at e; cases e
        | some o => rw [Hw0_up gt q] at e; cases e; exact absurd rfl (n _ _)
  rcases s with s | ⟨o, s⟩
  · obtain ⟨ys, o', e, _⟩ := Hw0_lt (low _ s (fun _ _ => HO.noConfusion)) s
    cases e
  · obtain ⟨ys, o', e, r, _⟩ := Hw0_lt (low _ s (fun _ _ z => by cases z)) s
    cases e
    exact tupsOf_rd r
/-- the context of a piece of its run -/
def cxG (G : Gs) (mg : Str → Option Value) (N : List Str) (qual : Str) (scope : Scope) (f : Addr) (cd : Value) (Hw : Hp) (sn : Shared) : Cx where
  prog := G.P
  w := G.w
  K := G.K
  mg := mg
  base := G.base
  A := G.A.in1.deeper (envOfC qual scope G.F f cd)
  N := N
  s_0 := { sn with heap := cutH sn.heap G.F }
  H_0 := Hw
  env := envOfC qual scope G.F f cd
  outer := G.stk
  stack := envOfC qual scope G.F f cd :: G.stk
  ex := []
  calm := true
  fn := fun _ => true
  pn := []
  xe := fun _ _ => False
structure NoCells (sc : Scope) : Prop where
  kind : sc.kind = .function
  co : sc.isCoroutine = false
  gen : sc.isGenerator = true
  cells : ∀ n, cellsFrom n sc.names [] = []
  none : ∀ x, sc.names.lookup x ≠ some .cell ∧ sc.names.lookup x ≠ some .free
section
variable {G : Gs} {mg : Str → Option Value} {N : List Str} {qual : Str} {scope : Scope} {f : Addr} {cd : Value} {own : List (Addr × Obj)} {sn s1 : Shared} {Hw : Hp} {σ : L2.St}
theorem inv_wake (S : GStat G mg) (C : NoCells scope) (W : Wk G own sn) (lo : ∀ b, b < G.F → Hw b = Hw0 G sn b) (hF : Hw G.F = none) (ok : HOk G.P G.w Hw sn.heap) {m : Str → Option Value} (hN : sn.heap.Ns G.F m) (hl : σ.length = N.length)
    (hσ : ∀ (i : Nat) (x : Str) (v : V), N[i]? = some x → σ[i]? = some (some v) → ∃ u, RelV v u ∧ m x = some u ∧ scope.names.lookup x = some .local) : Inv (cxG G mg N qual scope f cd Hw sn) [] σ Hw sn := by
  have lt := hN.lt
  have csz : (cutH sn.heap G.F).objs.size = G.F := cutH_size (Nat.le_of_lt lt)
  have cu : ∀ b o, b < G.F → sn.heap.get? b = some o → (cutH sn.heap G.F).get? b = some o := fun b o l e => by rw [cutH_get l]; exact e
  have nc : ∀ x, (envOfC qual scope G.F f cd).cells.lookup x = none := fun x => by
    show (cellsFrom (G.F + 1) scope.names []).lookup x = none
    rw [C.cells]; rfl
  have nc' : ∀ {x c} {p : Prop}, (envOfC qual scope G.F f cd).cells.lookup x = some c → p := fun {x c p} e => by rw [nc x] at e; cases e
  have noA : ∀ {b : Addr} {p : Prop}, b ∈ (cxG G mg N qual scope f cd Hw sn).ex → p := fun {b p} z => absurd (show b ∈ ([] : List Addr) from z) (by simp)
  have hlow : ∀ b, b < G.F → G.H1 b = none → Hw b = none := fun b l e => by rw [lo b l]; exact Hw0_none l e
  refine ⟨⟨S.mod, C.kind, rfl, rfl, Nat.le_of_eq csz, fun _ _ _ e _ => nc' e, fun x hx => ?_, fun _ _ _ e => nc' e, fun _ => S.hd, Around.frames_deeper (A := G.A.in1) S.frames, .inr ⟨rfl, rfl⟩, fun b hb => noA hb, fun b o e => ?_, Nat.le_trans S.bsz (Nat.le_of_eq csz.symm), fun b o _ hb => noA hb, fun b hb => noA hb, ?_, fun b hb => ?_⟩,
    rfl, W.bare, Un.kept fun b o e => (cutH_of e).2, ⟨m, hN, fun i x v h1 h2 _ => ?_⟩, fun _ _ e => nc' e, hF, fun _ _ e => nc' e, fun p hp => absurd (show p ∈ ([] : List (Addr × Obj)) ++ [] from hp) (by simp), ok, hl⟩
  · rcases hx with hx | hx
    · exact absurd hx (C.none x).1
    · exact absurd hx (C.none x).2
  · have l := Nat.lt_of_lt_of_le (Heap.lt_size e) S.bsz
    exact ⟨cu b o l (W.bs b o e), hlow b l (S.bnt b o e)⟩
  · exact funs_slots W.funs fun b hb o e => ⟨o.slots, cu b o (S.stk b hb).1 e⟩
  · exact hlow b (S.stk b hb).1 (S.stk b hb).2
  · obtain ⟨u, r, e, k⟩ := hσ i x v h1 h2
    exact ⟨u, r, .inl ⟨k, e⟩⟩
theorem stp_of {pins : List (Addr × Obj)} {H : Hp} (S : GStat G mg) (W : Wk G own sn) (I : Inv (cxG G mg N qual scope f cd Hw sn) pins σ H s1) (hw : ∀ b, ¬ OwnF G.x sn.heap G.F b → Hw b = Hw0 G sn b) (lo : ∀ b, b < G.F → Hw b = Hw0 G sn b)
    (there : ∀ b, OwnF G.x sn.heap G.F b → b ≠ G.F → ∃ o, s1.heap.get? b = some o) : Stp G sn s1 := by
  have frz : ∀ b o u, Hw b = some (.frz o u) → s1.heap.get? b = some o := fun b o u e => (I.hok b _ (I.base.frzs b o u e)).1
  have noA : ∀ b : Addr, b ∉ (cxG G mg N qual scope f cd Hw sn).ex := fun b z => absurd (show b ∈ ([] : List Addr) from z) (by simp)
  have keep : ∀ b o, sn.heap.get? b = some o → ¬ OwnF G.x sn.heap G.F b → b ∉ frs G.stk → s1.heap.get? b = some o := fun b o e no nf => by
    by_cases lt : b < G.F
    · cases q : Hw b with
      | none => exact I.base.keep b o (by show (cutH sn.heap G.F).get? b = _; rw [cutH_get lt]; exact e) q nf (noA b)
      | some u =>
        have q' := q
        rw [hw b no] at q'
        obtain ⟨xs, o', rfl, _, e2⟩ := Hw0_lt lt q'
        rw [e] at e2
        cases e2
        exact frz b o _ q
    · have ne : b ≠ G.F := fun z => no (.inl z)
      have gt : G.F < b := Nat.lt_of_le_of_ne (Nat.le_of_not_lt lt) (Ne.symm ne)
      have q := hw b no
      rw [Hw0_up gt e] at q
      exact frz b o _ q
  have slot : ∀ b o, sn.heap.get? b = some o → b ∈ frs G.stk → ∃ sl, s1.heap.get? b = some { o with slots := sl } := fun b o e hb => by
    obtain ⟨lt, hn⟩ := S.stk b hb
    exact I.base.slot b o (by show (cutH sn.heap G.F).get? b = _; rw [cutH_get lt]; exact e) (by show Hw b = none; rw [lo b lt]; exact Hw0_none lt hn) hb (noA b)
  refine ⟨I.os, I.bare, keep, slot, fun b o e => ?_⟩
  by_cases q : OwnF G.x sn.heap G.F b
  · by_cases ne : b = G.F
    · obtain ⟨m, ⟨o', _, _, e', _⟩, _⟩ := I.loc
      exact ⟨o', by rw [ne]; exact e'⟩
    · exact there b q ne
  · by_cases hb : b ∈ frs G.stk
    · obtain ⟨sl, e1⟩ := slot b o e hb
      exact ⟨_, e1⟩
    · exact ⟨o, keep b o e q hb⟩
end
/-- what a generator def promises: n items, the i-th one as «it» says, read in the tuples of the heap of its making -/
abbrev SpI := List V → Hp → Nat → (Nat → V → Prop) → Prop
def GMk (P : Program) (w : World) (K : PySem.W.Frag) (base : Heap) (A : Around) (outer : List Env) (s : Shared) (H : Hp) (n : Nat) (it : Nat → V → Prop) (u : Value) (s' : Shared) : Prop :=
  ∃ (G : Gs) (fp : List Addr), u = .ref G.a ∧ (G.P = P ∧ G.w = w ∧ G.K = K ∧ G.base = base ∧ G.A = A ∧ G.stk = outer ∧ G.H1 = H ∧ G.n = n ∧ G.it = it) ∧ Slp G 0 fp s' ∧ s'.os = s.os ∧ AllBare s'.gens ∧ (∀ b o, s.heap.get? b = some o → s'.heap.get? b = some o) ∧ (∀ b ∈ fp, s.heap.objs.size ≤ b) ∧
    (∀ h : Heap, h.get? G.a = some G.go → h.IsGen G.a G.g) ∧ A.handled = none ∧ A.depth < recursionLimit
structure GFnG (P : Program) (w : World) (K : PySem.W.Frag) (mg : Str → Option Value) (base : Heap) (k : Nat) (f : Addr) (fd : FuncData) (ps : List Str) (sp : SpI) : Prop where
  len : ∀ vs H n it, sp vs H n it → vs.length = ps.length
  run : ∀ (A : Around) (outer : List Env) (s : Shared) (H : Hp) (args : Args) (us : List Value) (vs : List V) (n : Nat) (it : Nat → V → Prop), Room k A → Env0 P w K mg base A outer s H → BindsTo s fd args (ps.zip us) → Vals vs us → sp vs H n it →
    codeAny (model P w) A (.call (.ref f) args) (fun r s' => match r with | .ok (.ret u) => GMk P w K base A outer s H n it u s' | _ => False) s
/-- a generator def, by its body. x: the one name under which it keeps a list of its own -/
theorem gfnG_of {P : Program} {w : World} {K : PySem.W.Frag} {mg : Str → Option Value} {base : Heap} {k : Nat} {f : Addr} {name qual : Str} {params : Arguments} {body : List Stmt} {scope : Scope} {dV kV doc pm cdv ct oc : Value} {an od : Option Addr}
    {osl : Array (Option Value)} {N ps : List Str} {sp : SpI} (x : Str) (lk : K.lookup f = some ⟨oc, od, .func (PySem.W.fnOf name qual params body scope dV kV doc pm an cdv ct), osl⟩) (hcd : PySem.W.codeIn K cdv qual = true) (C : NoCells scope) (hpre : N.take ps.length = ps) (hnd : N.Nodup)
    (hpar : ∀ y ∈ ps, scope.names.lookup y = some .local) (hx : x ∉ ps) (len : ∀ vs H n it, sp vs H n it → vs.length = ps.length)
    (hbody : ∀ (G : Gs) (vs : List V) (own : List (Addr × Obj)) (sn : Shared), G.P = P → G.w = w → G.K = K → G.base = base → G.x = x → GStat G mg → Room k (G.A.in1.deeper (envOfC qual scope G.F f cdv)) → sp vs G.H1 G.n G.it → Wk G own sn → (G.a, G.go) ∈ own →
      (∀ b, ¬ (OwnF x sn.heap G.F b ∧ b ≠ G.F)) → Inv (cxG G mg N qual scope f cdv (Hw0 G sn) sn) [] (L2.start N vs) (Hw0 G sn) sn →
      Seg (model G.P G.w) G.A.in1 (GRe G) (GYp G) G.n sn (.func body (envOfC qual scope G.F f cdv)) ((model G.P G.w).den (.func body (envOfC qual scope G.F f cdv))) [] sn) :
    GFnG P w K mg base (k + 2) f (PySem.W.fnOf name qual params body scope dV kV doc pm an cdv ct) ps sp := by
  refine ⟨len, fun A outer s H args us vs n it hr e0 hb r hsp => ?_⟩
  have hl := len _ _ _ _ hsp
  have KX : K.In s.heap := e0.mod.kin.keeps fun b o e => (e0.bs b o e).1
  have lim : s.heap.NoLimit := e0.mod.nolimit.keeps fun b o e => (e0.bs b o e).1
  have hkind : ∀ y ∈ ps.zip us, scope.names.lookup y.1 = some .local ∨ (scope.names.lookup y.1 = some .cell ∧ ((cellsFrom (s.heap.objs.size + 1) scope.names []).lookup y.1).isSome = true) := fun ⟨n, v⟩ hy => .inl (hpar n (List.of_mem_zip hy).1)
  refine codeAny_call_generator hr.depth (KX _ _ lk) rfl C.co C.gen rfl (PySem.W.codeRec_of KX hcd) (hb _ _ _ _ ?_)
  refine wpAny_newFunctionEnv_cells C.kind hkind fun env he s1 xx => ?_
  subst he
  have lim1 : s1.heap.NoLimit := lim.keeps xx.toInCall.keep
  refine ⟨lim1, ?_⟩
  obtain ⟨h1, tk, es1, hk1⟩ := xx.done
  have os1 : s1.os = s.os := by rw [es1]
  have gen1 : s1.gens = s.gens := by rw [es1]
  have lt1 : s.heap.objs.size < s1.heap.objs.size := xx.toInCall.ns.lt
  have kp1 : ∀ b o, s.heap.get? b = some o → s1.heap.get? b = some o := xx.toInCall.keep
  have main : ∀ (go : Obj) (nm qn : Value) (tk2 : Nat), go.cls = .type "generator" → go.data = .fields #[.int s1.gens.size 0, nm, qn] → go.slots = #[] → (∀ h : Heap, (h.push go).get? h.objs.size = some go) →
      GMk P w K base A outer s H n it (.ref s1.heap.objs.size) { s1 with gens := s1.gens.push (.fresh (.func body (envOfC qual scope s.heap.objs.size f cdv))), toks := tk2, heap := s1.heap.push go } := by
    intro go nm qn tk2 hgc hgd0 hgs hgp
    have hns := xx.toInCall.ns
    obtain ⟨fo, fes, fep, hfo, hfd, hfr⟩ := id hns
    have hfo2 : (s1.heap.push go).get? s.heap.objs.size = some fo := Heap.get?_push_of_some _ hfo
    have ng : ∀ v, go.data ≠ .cell v := fun v q => by rw [hgd0] at q; cases q
    have nF : ∀ v, fo.data ≠ .cell v := fun v q => by rw [hfd] at q; cases q
    have ownE : ∀ (h : Heap) (b : Addr), h.get? s.heap.objs.size = some fo → OwnF x h s.heap.objs.size b → b = s.heap.objs.size := fun h b e q => by
      rcases q with q | ⟨m, hm, hmx⟩
      · exact q
      · have hn2 : h.Ns s.heap.objs.size _ := ⟨fo, fes, fep, e, hfd, hfr⟩
        have := hn2.agree hm x
        rw [hmx, bindL_out fun v hv => hx (List.of_mem_zip hv).1] at this
        cases this
    refine ⟨⟨P, w, K, base, A, outer, s.heap.objs.size, s1.heap.objs.size, s1.gens.size, go, x, H, n, it⟩, [s1.heap.objs.size, s.heap.objs.size], rfl, ⟨rfl, rfl, rfl, rfl, rfl, rfl, rfl, rfl, rfl⟩,
      ⟨_, [(s1.heap.objs.size, go), (s.heap.objs.size, fo)], Array.getElem?_push_size .., rfl, List.mem_cons_self, fun p hp => ?_, fun b hb => ?_, .inl rfl, fun sn W => ⟨rfl, ?_⟩⟩, os1, ?_, fun b o e => Heap.get?_push_of_some _ (kp1 b o e), fun b hb => ?_, fun h e => ⟨go, nm, qn, e, hgc, hgd0, hgs⟩, hr.hd, hr.depth⟩
    · rcases List.mem_cons.mp hp with z | z
      · rw [z]; exact ⟨hgp _, ng⟩
      · rw [List.mem_singleton.mp z]
        exact ⟨hfo2, nF⟩
    · rw [ownE _ b hfo2 hb]
      exact List.mem_cons_of_mem _ List.mem_cons_self
    · have S : GStat ⟨P, w, K, base, A, outer, s.heap.objs.size, s1.heap.objs.size, s1.gens.size, go, x, H, n, it⟩ mg := by
        refine ⟨e0.mod, e0.bsz, fun b o e => (e0.bs b o e).2, fun b hb => ⟨?_, e0.frf b hb⟩, e0.frames, hr.hd, fun b xs r => ?_, lt1, ng⟩
        · obtain ⟨_, o, ho, _⟩ := e0.funs.mem hb
          exact Heap.lt_size ho
        · exact (r.ok e0.hok).lt
      have eF : sn.heap.get? s.heap.objs.size = some fo := W.own (s.heap.objs.size, fo) (List.mem_cons_of_mem _ List.mem_cons_self)
      refine hbody ⟨P, w, K, base, A, outer, s.heap.objs.size, s1.heap.objs.size, s1.gens.size, go, x, H, n, it⟩ vs [(s1.heap.objs.size, go), (s.heap.objs.size, fo)] sn rfl rfl rfl rfl rfl S ((hr.in1).deeper _) hsp W List.mem_cons_self (fun b z => z.2 (ownE _ b eF z.1)) ?_
      refine inv_wake S C W (fun _ _ => rfl) Hw0_F (Hw0_ok W) (m := bindL (envOfC qual scope s.heap.objs.size f cdv).kindOf (ps.zip us) fun _ => none) ⟨fo, fes, fep, eF, hfd, hfr⟩ ?_ fun i y v h1 h2 => ?_
      · unfold L2.start
        have := congrArg List.length hpre
        rw [List.length_take] at this
        rw [List.length_append, List.length_map, List.length_replicate]
        omega
      · have hi : i < vs.length := by
          unfold L2.start at h2
          by_cases hi : i < vs.length
          · exact hi
          · rw [List.getElem?_append_right (by simpa using hi), List.getElem?_replicate] at h2
            split at h2 <;> cases h2
        have ha : vs[i]? = some v := by
          unfold L2.start at h2
          rw [List.getElem?_append_left (by simpa using hi), List.getElem?_map] at h2
          cases e : vs[i]? with
          | none => rw [e] at h2; cases h2
          | some a => rw [e] at h2; cases h2; rfl
        obtain ⟨u, hu, rv⟩ := r.get ha
        have hp : ps[i]? = some y := by
          rw [← hpre, List.getElem?_take_of_lt (by omega)]; exact h1
        have ndP : ps.Nodup := by rw [← hpre]; exact hnd.sublist (List.take_sublist _ _)
        have k := hpar y (List.mem_of_getElem? hp)
        exact ⟨u, rv, bindL_get ndP hp hu k, k⟩
    · exact AllBare.push (by rw [gen1]; exact e0.bare) rfl
    · rcases List.mem_cons.mp hb with z | z
      · rw [z]; exact Nat.le_of_lt lt1
      · rw [List.mem_singleton.mp z]; exact Nat.le_refl _
  exact main _ _ _ _ rfl rfl rfl fun h => Heap.get?_push_size _ rfl
section
variable {X : Cx} {k : Nat} {f : Addr} {fd : FuncData} {ps : List Str} {sp : SpI} {x : Str} {p pos' : Pos} {e : Expr} {es : List Expr} {t : TA}
def iGen (sp : SpI) (t : TA) : TI := fun σ H R => t σ H fun vs H1 => ∃ n it, sp vs H1 n it ∧ ∀ G : Gs, G.H1 = H1 → G.n = n → G.it = it → R (Itg G) H1
/-- f(e, ..) of a generator def, walked -/
theorem pig_call (F : GFnG X.prog X.w X.K X.mg X.base k f fd ps sp) (hr : Room k X.A) (hg : Gl X x) (hm : X.mg x = some (.ref f)) (hk : PySem.W.keepIn X.K (.ref f) = true) (hb : Binds X.K fd ps [])
    (ha : PA X (e :: es) t) (hdb : (x == ("__debug__" : Str)) = false := by decide) (he : starEach (e :: es) X.env = (false, eval e X.env) :: starEach es X.env := by rfl) (hpl : (backTo pos' (starEach es X.env)).any (·.1) = false := by rfl) :
    PIG X (.Call (.Name x p) (e :: es) [] pos') (iGen sp t) := by
  refine ⟨fun pins s σ H R I h => ?_⟩
  refine wpAny_Call_Name_kw (ld_glob I hg hm ?_ hdb)
  refine PySem.W.callWith_K (h₀ := X.base) I.ok.mod.kin hk (thn (ha.run pos' pins s σ H _ I h) fun us s1 ⟨vs, H1, I1, r, n, it, hsp, q⟩ => ⟨I1.kIn, ?_⟩) he hpl
  have hl2 : us.length = ps.length := by rw [← r.length]; exact F.len _ _ _ _ hsp
  refine wpAny_call (codeAny_mono (F.run X.A X.stack s1 H1 ⟨us, []⟩ us vs n it hr I1.env0 (by have := hb s1 us I1.kIn (by rw [List.append_nil]; exact hl2); rw [List.append_nil] at this; exact this) r hsp) fun r s' hq => ?_)
  cases r with
  | error e => exact False.elim hq
  | ok fl =>
    cases fl with
    | next => exact False.elim hq
    | brk => exact False.elim hq
    | cont => exact False.elim hq
    | ret u =>
      obtain ⟨G, fp, rfl, ⟨e1, e2, e3, e4, e5, e6, e7, e8, e9⟩, st, hos, hba, kp, hfp, hgen, hh, hd⟩ := hq
      have O : GOk G X := ⟨e1.symm, e2.symm, e3.symm, e4.symm, e5.symm, e6.symm, by rw [e5]; exact hh, by rw [e5]; exact hd, hgen⟩
      have I2 : Inv X pins σ H1 s' := I1.call' (ch := []) hos (Un.kept kp) (I1.hok.kept kp) hba fun b z => by simp at z
      refine wpAny_pyIter_gen (st.gen O) ⟨G, fp, H1, rfl, O, I2, st, fun b hb => ?_, q G e7 e8 e9⟩
      exact I1.fpOk (hfp b hb) (I1.hok.fresh (hfp b hb))
end
end GenF
/-! list(g(..)) of an own generator def, run to its end -/
namespace PKL
open PySem PySem.Spec PyProof.Rows GenW L2
structure CalGE (P : Program) (w : World) (K : PySem.W.Frag) (mg : Str → Option Value) (base : Heap) (k : Nat) (x : Str) (sp : SpG) : Prop where
  ex : ∃ (f : Addr) (fd : FuncData) (ps : List Str), GFn P w K mg base k f fd ps sp ∧ mg x = some (.ref f) ∧ PySem.W.keepIn K (.ref f) = true ∧ Binds K fd ps []
theorem no_passes {X : Cx} : Passes (CX X.prog X.w) X C8.E0 := fun pins σ H s e s' I h => by
  obtain ⟨_, _, _, _, _, _, _, _, _, _, _, _, f⟩ := h
  exact f.elim
theorem pe_listOf {X : Cx} {j k : Nat} {x : Str} {sp : SpG} {p p2 pos pos2 : Pos} {e : Expr} {es : List Expr} {t : TA} (c : CalGE X.prog X.w X.K X.mg X.base k x sp) (hr : Room j X.A) (hk : k + 3 ≤ j) (hg2 : Gl X x) (ha : PA X (e :: es) t) (hg : Gl X "list") (hm : X.mg "list" = none) (hv : bootBuiltins "list" = some (.type "list"))
    (hdb : (x == ("__debug__" : Str)) = false := by decide) (he : starEach (e :: es) X.env = (false, eval e X.env) :: starEach es X.env := by rfl) (hpl : (backTo pos2 (starEach es X.env)).any (·.1) = false := by rfl)
    (he2 : starEach [.Call (.Name x p2) (e :: es) [] pos2] X.env = (false, eval (.Call (.Name x p2) (e :: es) [] pos2) X.env) :: starEach [] X.env := by rfl) :
    PE X (.Call (.Name "list" p) [.Call (.Name x p2) (e :: es) [] pos2] [] pos) (tListG (tCallG sp [] C8.E0 t)) := by
  obtain ⟨f, fd, ps, F, m, kp, b⟩ := c
  exact pe_listG (pgen_call F (hr.mono (by omega)) hg2 m kp b .nil ha hdb he hpl) no_passes (fun _ _ _ h => h.elim) (hr.mono hk) hg hm hv (he := he2)
end PKL
/-! del xs[m:], m from 0 to the length -/
namespace L2.PKR
open PySem PySem.Spec PyProof.Rows
theorem from_bounds {m n : Nat} (h : m ≤ n) : sliceBounds (some (m : Int)) none none n = ((m : Int), (n : Int), 1) := by
  simp only [sliceBounds, Option.getD_none]
  have h1 : ¬ (m : Int) < 0 := by omega
  simp only [h1, if_false, show (1 : Int) > 0 by decide, if_true]
  congr 1
  omega
section
variable {prog : Program} {w : World} {A : Around} {E : Value → Shared → Prop} {s : Shared}
theorem del_from {l sl : Addr} {its : List Value} {n m : Nat} {vl : Value} {Q : Unit → Shared → Prop} (e : s.heap.get? l = some { cls := .type "list", data := .seq its.toArray n }) (hs : s.heap.IsSliceOf sl vl .none .none)
    (pl : IsPart vl (some (m : Int))) (hm : m ≤ its.length) (hz : its.length ≤ sizeLine)
    (h : ∀ f : Array Value → Array Value, f its.toArray = (its.take (m)).toArray → Q () { s with heap := s.heap.update l (Obj.mapSeq f) }) : wpAny (model prog w) A (delItem (.ref l) (.ref sl)) Q E s := by
  have hl : s.heap.IsList l its.toArray := PySem.IsL.isList e
  obtain ⟨os, hos, hcs, hds⟩ := id hs
  have ty : s.TypeIs (.ref sl) "slice" := ⟨os, hos, hcs⟩
  refine wpAny_delItem_slot hl.typeIs (by decide) F.slot_list_delitem (wpAny_call_entry F.slot_list_delitem hl.typeIs F.entry_list_delitem ?_ (F.args_list_delitem_2 _ _))
  show wpAny _ _ (Builtin.List.listSubscript? (.ref sl) >>= _) _ _ s
  unfold Builtin.List.listSubscript?
  refine wpAny_bind (wpAny_bind (wpAny_specialOf ty slice_no_index ?_))
  simp only [Option.isNone_none, if_true]
  refine wpAny_pure ?_
  show wpAny _ _ (typeOf (.ref sl) >>= _) _ _ s
  refine wpAny_bind (wpAny_typeOf ty ?_)
  first | (rw [if_neg (by decide)]) | (refine PySem.W.KFB.if_not (by decide) ?_)
  rw [listSliceParts_eq]
  refine wpAny_bind (wpAny_bind (wpAny_field hos hds (x := .none) rfl (wpAny_bind (wpAny_listPart .none ?_)))); rw [if_neg (show ¬ ((rawPart none == rawInt 0) = true) from Bool.false_ne_true)]
  refine wpAny_bind (wpAny_field hos hds (x := vl) rfl (wpAny_bind (wpAny_listPart pl (wpAny_bind (wpAny_field hos hds (x := .none) rfl (wpAny_bind (wpAny_listPart .none (wpAny_pure ?_))))))))
  unfold Builtin.List.listItems
  refine wpAny_bind (wpAny_bind (wpAny_seqItems e rfl (wpAny_pure ?_)))
  refine wpAny_bind (wpAny_of_eq ((sliceIndices_raw (some (m : Int)) none none its.toArray.size (by simp)).trans (congrArg (pure : Int × Int × Int → Sem (Int × Int × Int)) (from_bounds (n := its.toArray.size) (by simpa using hm)))) ?_)
  refine wpAny_bind (wpAny_rule ?_)
  have lt : its.toArray.size = its.length := List.size_toArray
  show wpAny _ _ (updateSeq l _ >>= _) _ _ _
  refine wpAny_bind (wpAny_updateSeq (hz := by rw [lt]; exact hz) (_hz' := ?fit) e rfl (wpAny_bind (wpAny_letGo (wpAny_pure ⟨.none, rfl, h _ (congrArg List.toArray ?same)⟩))))
  case fit =>
    rw [List.size_toArray]
    exact Nat.le_succ_of_le (Nat.le_trans (List.length_filterMap_le _ _) (by rw [List.length_zipIdx]; exact hz))
  case same =>
    refine (keep_first (a := m) its 0 fun k hk => ?_)
    show (if (1 : Int) > 0 then (decide (((m : Nat) : Int) ≤ (k : Int)) && decide ((k : Int) < (its.toArray.size : Int)) && (((k : Int) - ((m : Nat) : Int)) % 1 == 0)) else _) = _
    rw [if_pos (by decide), lt, Int.emod_one]
    have k2 : (k : Int) < (its.length : Int) := by omega
    rw [decide_eq_true k2, Bool.and_true]
    by_cases q : m ≤ k
    · rw [decide_eq_true q, decide_eq_true (show ((m : Nat) : Int) ≤ (k : Int) by omega)]; rfl
    · rw [decide_eq_false q, decide_eq_false (show ¬ ((m : Nat) : Int) ≤ (k : Int) by omega)]; rfl
end
def tDelFrom (to ti : TE) : TS := fun D σ H => to σ H fun x H1 => ti σ H1 fun y H2 => ∃ (l : Addr) (xs : List V) (m : Nat), x = .ref l ∧ y = .int (m : Int) ∧ H2 l = some (.lst xs) ∧ m ≤ xs.length ∧ D.nx σ (upd H2 l (.lst (xs.take m)))
theorem ps_delFrom {X : Cx} {o i : Expr} {to ti : TE} {p2 tpos pos : Pos} (ho : PE X o to) (hi : PE X i ti) : PS X (.Delete [.Subscript o (.Slice (some i) none none p2) tpos] pos) (tDelFrom to ti) := by
  refine ⟨fun pins s σ H D I h => wpAny_Delete (wpAny_deleteEach_cons (wpAny_delete_Subscript (thn (ho.run pins s σ H _ I h) fun u s1 ⟨x, H1, I1, rx, q1⟩ => wpAny_Slice ?_)))⟩
  rw [evalPart_some]
  refine thn (hi.run pins s1 σ H1 _ I1 q1) fun v s2 ⟨y, H2, I2, ry, l, xs, m, ex, ey, hH, hm, q2⟩ => ?_
  subst ex ey
  cases (show u = Value.ref l from rx)
  obtain ⟨t, rfl⟩ := (show ∃ t, v = Value.int (m : Int) t from ry)
  rw [evalPart_none]
  refine wpAny_pure (wpAny_pure ?_)
  have I3 : Inv X pins σ H2 { s2 with heap := s2.heap.push { cls := .type "slice", data := .fields #[.int (m : Int) t, .none, .none] } } := I2.kept (t' := s2.toks) fun b ob z => Heap.get?_push_of_some _ z
  obtain ⟨hz, its, n, r, hl, e⟩ := I3.lstM hH
  refine del_from (m := m) e (Heap.IsSliceOf.new ..) (.int _ _) (by omega) (by omega) fun f hf => wpAny_deleteEach_nil ⟨σ, _, I3.lset (its' := its.take (m)) (t' := s2.toks) hH e hf (by exact r.take _) (by rw [List.length_take]; omega), q2⟩
end L2.PKR
/-! tuple(list), the new tuple known to its object; dict(t) of such a tuple of pairs -/
namespace PKD
open PySem PySem.Spec PyProof.Rows L2
theorem tuple_keys_none : typeLookup (.type "tuple") "keys" = pure none := am_miss_of_fast (by first | decide +kernel | rfl)
section
variable {prog : Program} {w : World} {A : Around} {E : Value → Shared → Prop}
/-- a tuple has no attribute 'keys' -/
theorem miss_tuple {s : Shared} {a : Addr} {o : Obj} {xs : Array Value} {k : Nat} {Q : Option Value → Shared → Prop} (hx : s.heap.get? a = some o) (hc : o.cls = .type "tuple") (hdat : o.data = .seq xs k) (hd : o.dict = none) (hA : A.handled = none)
    (h : ∀ h' tk, (∀ b ob, s.heap.get? b = some ob → h'.get? b = some ob) → Q none { s with heap := h', toks := tk }) : wpAny (model prog w) A (getAttr? (.ref a) "keys") Q E s := by
  obtain ⟨c, dct, dat, sl⟩ := o
  simp only at hc hdat hd
  subst hc hdat hd
  obtain ⟨hp, g, d, tk, os⟩ := s
  have hT : ∀ tk', (⟨hp, g, d, tk', os⟩ : Shared).TypeIs (.ref a) "tuple" := fun _ => ⟨_, hx, rfl⟩
  have hmiss := tuple_keys_none
  have hname : (["__module__", "__name__", "__qualname__", "__doc__", "__annotations__"] : List Str).contains "keys" = false := by decide +kernel
  have hsz : ("keys" : Str).length + 100 ≤ sizeLine := by first | size_fits | decide +kernel
  have f1 := sub_AttributeError
  have f3 := PySem.F.slot_tuple_getattribute.lookup
  have f4 := PySem.F.slot_tuple_getattribute.bind (.ref a)
  have f5 := am_tuple_getattr_none
  unfold getAttr? getAttrBy? getAttrBy
  repeat (any_goals (first | assumption | exact hT _ | ((with_reducible show wpAny _ _ (call (Value.builtin "tuple.__getattribute__") _ _) _ _ _); refine call_meets PySem.F.slot_tuple_getattribute (hT _) am_entry_tuple_getattribute (PySem.F.args_tuple_getattribute_2 _ _) (meets_getattribute_miss_tuple a xs k sl "keys" _ hmiss hname hsz) ⟨hx, hA, fun h' tk' e hx' => ?_⟩) | wp_step))
  obtain ⟨t', u', he⟩ := hx'.there
  show wpAny _ _ (getattributeRaised _ _ _ _ _ _ _) _ _ _
  unfold getattributeRaised
  repeat (any_goals (first | assumption | wp_step))
  all_goals first | exact h _ _ hx'.keeps | (dsimp only; repeat (any_goals (first | assumption | exact h _ _ hx'.keeps | wp_step)))
/-- the walk over the pairs of a tuple -/
theorem upd_loopT {R : Result → Shared → Prop} {S I l : Addr} {items : Array Value} {res : Value} (hh : A.handled = none) (hlI : l ≠ I) (hSI : S ≠ I) (hSl : S ≠ l) :
    ∀ (rest : List (Key × Value)) (i : Nat) (acc : List (Key × Value)) (ix : Int) (t : Tok) (s : Shared), items.size = i + rest.length → acc.length + rest.length ≤ sizeLine →
      (∀ (j : Nat) (q : Key × Value), rest[j]? = some q → ∃ (b : Addr) (u : Value), items[i + j]? = some (.ref b) ∧ b ≠ S ∧ b ≠ I ∧ IsTup s.heap b #[u, q.2] ∧ keyIs q.1 u = true) →
      s.heap.IsTupleIter I l i → s.heap.IsTuple l items → s.heap.DictOf (mixKind prog w) S acc →
      (∀ h' tk, h'.DictOf (mixKind prog w) S (merged acc rest) → (∀ b o, b ≠ S → b ≠ I → s.heap.get? b = some o → h'.get? b = some o) → R (.ok (.ret res)) { s with heap := h', toks := tk }) →
      codeAny (model prog w) A (.builtin "dict.update.loop" ⟨[.ref S, .ref I, .int ix t, res], []⟩) R s
  | [], i, acc, ix, t, s, hsz, hln, ht, hit, hl, hm, hR => by
    refine codeAny_builtin ud_entry ?_
    rw [Around.under_plainId ud_plain _]
    show wpAny _ A.in1 (pyNext (.ref I) >>= _) _ _ s
    refine wpAny_bind (wpAny_pyNext_tuple_end (A := A.in1) hh hit hl (by first | exact Array.getElem?_eq_none (Nat.le_of_eq hsz) | (simp at hsz; simp; omega)) fun h' he => ?_)
    show wpAny _ A.in1 (Builtin.Dict.addKeywords S [] >>= _) _ _ _
    refine wpAny_bind (wpAny_pure (wpAny_pure ?_))
    exact hR h' s.toks (hm.extBut he hSI) fun b o _ hb e => he b o hb e
  | q :: rest, i, acc, ix, t, s, hsz, hln, ht, hit, hl, hm, hR => by
    obtain ⟨b, u, hb, hbS, hbI, htup, hk⟩ := ht 0 q rfl
    rw [List.length_cons] at hsz hln
    refine codeAny_builtin ud_entry ?_
    rw [Around.under_plainId ud_plain _]
    show wpAny _ A.in1 (pyNext (.ref I) >>= _) _ _ s
    refine wpAny_bind (wpAny_pyNext_tuple_item (x := .ref b) hit hl (by simpa using hb) fun h1 hit1 hs1 => ?_)
    have ht1 : IsTup h1 b #[u, q.2] := htup.extBut hs1.extBut hbI
    have hl1 : h1.IsTuple l items := hl.extBut hs1.extBut hlI
    have hm1 : h1.DictOf (mixKind prog w) S acc := hm.extBut hs1.extBut hSI
    obtain ⟨o, ho, hc, n, hd⟩ := id ht1
    show wpAny _ A.in1 (holding [Value.ref b] _ >>= _) _ _ _
    refine wpAny_bind (wpAny_holding ?_)
    refine wpAny_bind (wpAny_tryCatch ?_)
    unfold Builtin.Dict.pairItems
    refine wpAny_bind (wpAny_typeOf (T := "tuple") ⟨o, ho, hc⟩ ?_)
    rw [if_pos (by first | decide | rfl | simp)]
    refine wpAny_bind (wpAny_seqItems ho hd (wpAny_pure ?_))
    show wpAny _ A.in1 (holding [u, q.2] (dictSet S u q.2)) _ _ _
    refine wpAny_holding (wpAny_dictSet_pairs (knd := mixKind prog w) (k := q.1) hk hm1 (fun h2 hm2 hs2 => ?_) (by omega))
    refine wpAny_pure ⟨plainId_quiet ud_plain _, upd_loopT (items := items) hh hlI hSI hSl rest (i + 1) (stored acc q.1 q.2) (ix + 1) 0 _ (show items.size = i + 1 + rest.length by omega) ?_ (fun j q' e => ?_) ?_ ?_ hm2 fun h' tk hd' k => ?_⟩
    · have z := stored_length_le acc q.1 q.2
      omega
    · obtain ⟨b', u', hb', hbS', hbI', htup', hk'⟩ := ht (j + 1) q' (by simpa using e)
      refine ⟨b', u', ?_, hbS', hbI', (htup'.extBut hs1.extBut hbI').extBut hs2.extBut hbS', hk'⟩
      rw [show i + 1 + j = i + (j + 1) by omega]
      exact hb'
    · exact hit1.at fun o' e => hs2.extBut I o' (Ne.symm hSI) e
    · exact hl1.extBut hs2.extBut (Ne.symm hSl)
    · exact hR h' tk hd' fun c oc h3 h4 e => k c oc h3 h4 (hs2.extBut c oc h3 (hs1.extBut c oc h4 e))
/-- dict(t) of a tuple of pairs -/
theorem call_dict_pairsT {s : Shared} {l : Addr} {ol : Obj} {items : Array Value} {n : Nat} {prs : List (Key × Value)} {Q : Value → Shared → Prop} (hh : A.handled = none) (hl : s.heap.get? l = some ol) (hc : ol.cls = .type "tuple") (hd : ol.dict = none)
    (hdat : ol.data = .seq items n) (hsz : items.size = prs.length) (hln : prs.length ≤ sizeLine)
    (ht : ∀ (j : Nat) (q : Key × Value), prs[j]? = some q → ∃ (b : Addr) (u : Value), items[j]? = some (.ref b) ∧ IsTup s.heap b #[u, q.2] ∧ keyIs q.1 u = true)
    (h : ∀ h' tk, h'.DictOf (mixKind prog w) s.heap.objs.size (merged [] prs) → (∀ b o, s.heap.get? b = some o → h'.get? b = some o) → Q (.ref s.heap.objs.size) { s with heap := h', toks := tk }) :
    wpAny (model prog w) A (call (.type "dict") [.ref l]) Q E s := by
  refine callType_codes (Q₁ := fun obj s₁ => obj = .ref s.heap.objs.size ∧ s₁ = { s with heap := s.heap.push { cls := .type "dict", data := .dict #[] } }) PySem.F.kt_called_dict (PySem.F.kt_typeCall_dict_1 _) PySem.F.entry_dict_init (kt_code_dict_new _ ⟨rfl, rfl⟩) ?_
  rintro obj s₁ ⟨rfl, rfl⟩
  have hnew : (s.heap.push { cls := .type "dict", data := .dict #[] }).DictOf (mixKind prog w) s.heap.objs.size [] := Heap.DictOf.new s.heap
  have k0 : ∀ b o, s.heap.get? b = some o → (s.heap.push { cls := .type "dict", data := .dict #[] }).get? b = some o := fun b o e => Heap.get?_push_of_some _ e
  refine ⟨hnew.typeIs, PySem.F.args_dict_init_2 _ _, ?_⟩
  unfold Builtin.«dict.__init__»
  refine wpAny_bind ?_
  unfold Builtin.Dict.selfAndRest
  refine wpAny_bind (wpAny_notOrdered_dict hnew.typeIs ?_)
  show wpAny _ _ (pure (s.heap.objs.size, [Value.ref l])) _ _ _
  refine wpAny_pure ?_
  show wpAny _ _ (Builtin.Dict.updateFrom "dict.__init__" s.heap.objs.size (.ref l) [] .none) _ _ _
  unfold Builtin.Dict.updateFrom
  refine wpAny_bind (wpAny_typeOf (T := "tuple") ⟨ol, k0 _ _ hl, hc⟩ ?_)
  rw [if_pos (by first | decide | rfl | simp)]
  refine wpAny_bind (miss_tuple (k0 _ _ hl) hc hdat hd hh fun h1 tk1 hk1 => ?_)
  rw [if_pos (show (none : Option Value).isNone = true from rfl)]
  refine wpAny_bind (wpAny_rule ?_)
  have hl1 : h1.IsTuple l items := ⟨ol, hk1 _ _ (k0 _ _ hl), hc, n, hdat⟩
  have hS1 : s.heap.objs.size < h1.objs.size := by
    have e : (s.heap.push { cls := .type "dict", data := .dict #[] }).get? s.heap.objs.size = some { cls := .type "dict", data := .dict #[] } := Heap.get?_push_size _ rfl
    exact Heap.lt_size (hk1 _ _ e)
  refine wpAny_bind (wpAny_pyIter_tuple hl1 ?_)
  have k2 : ∀ b o, h1.get? b = some o → (h1.push { cls := .type "tuple_iterator", data := .fields #[.ref l, .int 0 0] }).get? b = some o := fun b o e => Heap.get?_push_of_some _ e
  have hlt : l < s.heap.objs.size := Heap.lt_size hl
  have key := upd_loopT (prog := prog) (w := w) (A := A.in1) (R := wants (fun r s₂ => r = .none ∧ Q (.ref s.heap.objs.size) s₂) E) (S := s.heap.objs.size) (I := h1.objs.size) (l := l) (items := items) (res := Value.none) hh
    (Nat.ne_of_lt (Nat.lt_trans hlt hS1)) (Nat.ne_of_lt hS1) (Nat.ne_of_gt hlt) prs 0 [] 0 0
    { s with heap := h1.push { cls := .type "tuple_iterator", data := .fields #[.ref l, .int 0 0] }, toks := tk1 } (by rw [hsz, Nat.zero_add]) (by rw [List.length_nil, Nat.zero_add]; exact hln)
    (fun j q e => by
      obtain ⟨b, u, e1, e2, e3⟩ := ht j q e
      have hb : b < s.heap.objs.size := e2.lt
      exact ⟨b, u, by rw [Nat.zero_add]; exact e1, Nat.ne_of_lt hb, Nat.ne_of_lt (Nat.lt_trans hb hS1), e2.keeps fun c o z => k2 _ _ (hk1 _ _ (k0 _ _ z)), e3⟩)
    ⟨_, Heap.get?_push_size _ rfl, rfl, rfl⟩ (hl1.at fun o e => k2 _ _ e) ((hnew.at fun o e => hk1 _ _ e).at fun o e => k2 _ _ e)
    (fun h' tk hd' k => ⟨rfl, h h' tk hd' fun b o e => k b o (Nat.ne_of_lt (Heap.lt_size e)) (Nat.ne_of_lt (Nat.lt_trans (Heap.lt_size e) hS1)) (k2 _ _ (hk1 _ _ (k0 _ _ e)))⟩)
  first
    | exact wpAny_pure ⟨plainId_quiet ud_plain _, key⟩
    | exact wpAny_bind (wpAny_pure (wpAny_pure ⟨plainId_quiet ud_plain _, key⟩))
end
section
variable {X : Cx}
/-- tuple(list), the new tuple known to its object -/
def rTupF (K : PySem.W.Frag) : List V → Hp → VK → Prop := fun xs H Q => ∃ p ys, xs = [.ref p] ∧ SqL K H p ys ∧ ∀ (l : Addr) (o : Obj), H l = none → o.dict = none → Q (.ref l) (upd H l (.frz o (.tup ys)))
theorem call_tupleF : CallR X (.type "tuple") (rTupF X.K) := by
  intro pins s σ H xs us Q I r h
  obtain ⟨p, ys, rfl, hq, q⟩ := h
  obtain ⟨u, rfl, rx⟩ := vals1 r
  cases rx
  obtain ⟨its, r', pl, hz⟩ := I.list hq
  have hlen := r'.length
  refine call_tuple_list pl.isList (fun h' kp => ?_) (by simp only [List.size_toArray] <;> omega)
  have I1 : Inv X pins σ H { s with heap := h' } := I.kept (t' := s.toks) kp
  have I2 : Inv X pins σ (upd H h'.objs.size (.frz { cls := .type "tuple", data := .seq its.toArray } (.tup ys))) { s with heap := h'.push { cls := .type "tuple", data := .seq its.toArray } } :=
    I1.laid (t' := s.toks) (fun b o e => Heap.get?_push_of_some _ e) (Nat.le_refl _) (show ObjOk X.prog X.w _ _ _ (.frz _ (.tup ys)) from ⟨Heap.get?_push_size _ rfl, hz, its, r', IsTup.new _ _⟩)
  exact ⟨.ref h'.objs.size, _, I2, rfl, q _ _ (I1.hok.fresh (Nat.le_refl _)) rfl⟩
/-- dict(t) of a tuple of pairs (key, value), known to its object: later pairs win, the place is the first one's -/
def rDictT (K : PySem.W.Frag) : List V → Hp → VK → Prop := fun xs H Q => ∃ (a : Addr) (o : Obj) (ps : List Addr) (kvs : List (Key × V)), xs = [.ref a] ∧ H a = some (.frz o (.tup (ps.map V.ref))) ∧ o.dict = none ∧ Paired (fun p kv => SqT K H p [kV kv.1, kv.2]) ps kvs ∧
    ∀ p, H p = none → Q (.ref p) (upd H p (.dK (mergeK [] kvs)))
theorem call_dictT (hcalm : X.calm = true) : CallR X (.type "dict") (rDictT X.K) := by
  intro pins s σ H xs us Q I r q
  obtain ⟨a, o, ps, kvs, rfl, hf, hod, hp, q⟩ := q
  obtain ⟨u, rfl, rx⟩ := vals1 r
  cases rx
  obtain ⟨ho, hz, its, rv, o', ho', hc, n, hdat⟩ : s.heap.get? a = some o ∧ (ps.map V.ref).length ≤ sizeLine ∧ ∃ its : List Value, Vals (ps.map V.ref) its ∧ IsTup s.heap a its.toArray := (show ObjOk X.prog X.w H s.heap a (.frz o (.tup (ps.map V.ref))) from I.hok a _ hf)
  rw [ho] at ho'
  cases ho'
  have ei := refs_at rv
  subst ei
  rw [List.length_map] at hz
  obtain ⟨prs, rel, hl, hpr⟩ := pairs_of I hp
  refine call_dict_pairsT (prs := prs) (I.ok.hd hcalm) ho hc hod hdat (by simp [hl]) (by rw [hl]; exact hz) (fun j q' e => ?_) fun h' tk hd' k => ?_
  · obtain ⟨b, u, e1, e2, e3⟩ := hpr j q' e
    exact ⟨b, u, by simp [e1], e2, e3⟩
  · have hm : (s.heap.objs.size == sysModules) = false := beq_eq_false_iff_ne.mpr (Nat.ne_of_gt I.big)
    have hlen : (mergeK [] kvs).length ≤ sizeLine := by
      refine Nat.le_trans (length_mergeK kvs []) ?_
      rw [List.length_nil, Nat.zero_add, rel.length, hl]
      exact hz
    exact ⟨.ref s.heap.objs.size, upd H s.heap.objs.size (.dK (mergeK [] kvs)), I.laid (t' := tk) k (Nat.le_refl _) (show ObjOk X.prog X.w _ _ _ (.dK (mergeK [] kvs)) from ⟨hlen, hm, merged [] prs, KV.merge rel .nil, hd'⟩), rfl, q _ (I.hok.fresh (Nat.le_refl _))⟩
/-- d.update(d2), dicts of ints and texts -/
def rUpdD : V → List V → Hp → VK → Prop := fun x vs H Q => ∃ (a b : Addr) (kvs more : List (Key × V)), x = .ref a ∧ vs = [.ref b] ∧ a ≠ b ∧ H a = some (.dK kvs) ∧ H b = some (.dK more) ∧ kvs.length + more.length ≤ sizeLine ∧ Q .non (upd H a (.dK (mergeK kvs more)))
theorem mt_update : MtM X "dict.update" rUpdD := by
  intro pins s σ H x vs v us Q I rx rv h
  obtain ⟨a, b, kvs, more, rfl, rfl, ne, ha, hb, hl, q⟩ := h
  cases rx
  obtain ⟨u, rfl, ru⟩ := rv.one
  cases ru
  obtain ⟨z, hd, vs, rel, dd⟩ := dk_of I.hok ha
  obtain ⟨z2, hd2, vs2, rel2, dd2⟩ := dk_of I.hok hb
  refine call_meetsIn PySem.F.slot_dict_update dd.typeIs PySem.F.entry_dict_update (PySem.F.args_dict_update_2 _ _) (meets_dict_update (mixKind X.prog X.w) a b ne hd2) ⟨vs, vs2, dd, dd2, by rw [← rel.length, ← rel2.length]; exact hl, fun h' dd' _ hs => ?_⟩
  have he : ∃ q, h'.get? a = some q := let ⟨q, _, _, hq, _⟩ := dd'; ⟨q, hq⟩
  have hz : (mergeK kvs more).length ≤ sizeLine := Nat.le_trans (length_mergeK more kvs) hl
  exact ⟨.non, _, d_write (t' := s.toks) I (by rw [ha]; exact True.intro) hs he (dk_new hz hd (KV.merge rel2 rel) dd'), rfl, q⟩
end
end PKD
namespace PKE
open PySem L2
/-! == and != of data of any depth that there is room for -/
section
variable {X : Cx}
def rEqN (K : PySem.W.Frag) (n : Nat) : R2 := fun x y H Q => ∃ d e, Dp K H x d ∧ Dp K H y e ∧ d.canLay0 = true ∧ e.canLay0 = true ∧ (d.depth ≤ n ∨ e.depth ≤ n) ∧ Q (.bl (PyData.eqv d e)) H
theorem op_eqN {n : Nat} (hu : X.A.units + n < cLine) : OpR X (compareOp .Eq) (rEqN X.K n) := by
  intro pins s σ H x y v u Q I rx ry h
  obtain ⟨d, e, hd, he, sd, se, hn, q⟩ := h
  obtain ⟨as, r1⟩ := Dp.reads I d x v hd rx
  obtain ⟨bs, r2⟩ := Dp.reads I e y u he ry
  refine SeqAt.compareEq_reads r1 r2 sd se ?_ ⟨.bl _, H, I, rfl, q⟩
  rcases hn with h | h
  · exact Nat.lt_of_le_of_lt (Nat.add_le_add_left (Nat.le_trans (Nat.min_le_left _ _) h) _) hu
  · exact Nat.lt_of_le_of_lt (Nat.add_le_add_left (Nat.le_trans (Nat.min_le_right _ _) h) _) hu
end
end PKE
namespace PKE
open PySem L2
/-! != of data of any depth that there is room for -/
section
variable {X : Cx}
def rNeN (K : PySem.W.Frag) (n : Nat) : R2 := fun x y H Q => ∃ d e, Dp K H x d ∧ Dp K H y e ∧ d.canLay0 = true ∧ e.canLay0 = true ∧ (d.depth ≤ n ∨ e.depth ≤ n) ∧ Q (.bl (!PyData.eqv d e)) H
theorem op_neN {n : Nat} (hu : X.A.units + n < cLine) : OpR X (compareOp .NotEq) (rNeN X.K n) := by
  intro pins s σ H x y v u Q I rx ry h
  obtain ⟨d, e, hd, he, sd, se, hn, q⟩ := h
  obtain ⟨as, r1⟩ := Dp.reads I d x v hd rx
  obtain ⟨bs, r2⟩ := Dp.reads I e y u he ry
  refine SeqAt.compareNe_reads r1 r2 sd se ?_ ⟨.bl _, H, I, rfl, q⟩
  rcases hn with h | h
  · exact Nat.lt_of_le_of_lt (Nat.add_le_add_left (Nat.le_trans (Nat.min_le_left _ _) h) _) hu
  · exact Nat.lt_of_le_of_lt (Nat.add_le_add_left (Nat.le_trans (Nat.min_le_right _ _) h) _) hu
end
end PKE
/-! sorted(t) of a tuple of texts -/
namespace L2.PKJ
open PySem PySem.Spec PyProof.Rows L2
section
variable {prog : Program} {w : World} {A : Around} {E : Value → Shared → Prop} {s : Shared}
theorem gather {l : Addr} {vs : List Value} {Q : List Value → Shared → Prop} (hl : IsTup s.heap l vs.toArray) (h : Q vs { s with heap := (s.heap.push (seqObj "list" #[] 0)).update s.heap.objs.size (Obj.mapSeq (· ++ vs.toArray)) }) (few : vs.length ≤ sizeLine) :
    wpAny (model prog w) A (collect (.ref l)) Q E s := by
  obtain ⟨o, at_, cl, n, data⟩ := id hl
  unfold collect
  apply wpAny_bind
  apply wpAny_runValue
  apply codeAny_builtin entry_proto_collect'
  show wpAny _ _ (do again (.builtin "list.__iadd__" ⟨[← newList [], .ref l], []⟩)) _ _ s
  apply wpAny_bind
  refine wpAny_newList ?_ (by first | exact few | exact Nat.zero_le _)
  refine wpAny_pure ⟨Code.quiet_builtin _ (by decide +kernel), codeAny_builtin entry_list_iadd' ?_⟩
  have atp : (s.heap.push (seqObj "list" #[] 0)).get? l = some o := Heap.get?_push_of_some _ at_
  have new : (s.heap.push (seqObj "list" #[] 0)).get? s.heap.objs.size = some (seqObj "list" #[] 0) := Heap.get?_push_size _ rfl
  show wpAny _ _ (Builtin.List.listExtendWith (.ref s.heap.objs.size) (.ref l) (.ref s.heap.objs.size)) _ _ { s with heap := s.heap.push (seqObj "list" #[] 0) }
  unfold Builtin.List.listExtendWith
  refine wpAny_bind (wpAny_typeOf (T := "tuple") ⟨o, atp, cl⟩ ?_)
  have two : (Value.type "tuple" == Value.type "tuple") = true := by rfl
  rw [if_pos (by rw [two]; simp)]
  apply wpAny_bind
  refine listItems_at atp data ?_
  apply wpAny_bind
  refine listItems_at (xs := #[]) (n := 0) new rfl ?_
  rw [if_neg (by simp)]
  apply wpAny_bind
  refine listUpdate_at (xs := #[]) (n := 0) new rfl ?_ (Nat.zero_le _) (by show (#[] ++ vs.toArray).size ≤ sizeLine + 1; simp only [Array.size_append, List.size_toArray, List.length_nil]; omega)
  apply wpAny_pure
  show wpAny (model prog w) A (do
      let o ← load s.heap.objs.size
      match o.data with
      | .seq xs _ => pure xs.toList
      | _ => unsupported "internal:collect") Q E { s with heap := (s.heap.push (seqObj "list" #[] 0)).update s.heap.objs.size (Obj.mapSeq (· ++ vs.toArray)) }
  apply wpAny_bind
  refine wpAny_load (get?_update_seq new _) ?_
  show wpAny _ _ (pure ((#[] : Array Value) ++ vs.toArray).toList) Q E _
  have e : ((#[] : Array Value) ++ vs.toArray).toList = vs := by simp
  rw [e]
  exact wpAny_pure h
theorem texts_of_tup {l : Addr} {vs : List Value} {ss : List Str} {Q : Value → Shared → Prop} (hl : IsTup s.heap l vs.toArray) (hS : StrsAre vs ss) (few : vs.length ≤ sizeLine)
    (h : ∀ (out : Array Value) (zs : List Str), StrsAre out.toList zs → zs.Perm ss → sortedS zs = true → Q (.ref (s.heap.objs.size + 1)) { s with heap := sortedAll s.heap vs out }) : wpAny (model prog w) A (call (.builtin "sorted") [.ref l]) Q E s := by
  apply Calls.call_function_entry kind_sorted plain_sorted entry_sorted (args_sorted1 _)
  unfold Builtin.«sorted»
  refine wpAny_bind (m := checkCount "sorted" 1 1 _) (wpAny_pure ?_)
  apply wpAny_bind
  refine gather hl ?_ few
  apply wpAny_bind
  refine wpAny_newList ?_ (by first | exact few | exact Nat.zero_le _)
  have size : ((s.heap.push (seqObj "list" #[] 0)).update s.heap.objs.size (Obj.mapSeq (· ++ vs.toArray))).objs.size = s.heap.objs.size + 1 := by
    rw [Heap.size_update, size_push']
  have made : (((s.heap.push (seqObj "list" #[] 0)).update s.heap.objs.size (Obj.mapSeq (· ++ vs.toArray))).push (seqObj "list" vs.toArray 0)).get? (s.heap.objs.size + 1) = some (seqObj "list" vs.toArray 0) := by
    rw [← size]
    exact Heap.get?_push_size _ rfl
  show wpAny _ _ _ _ _ { s with heap := ((s.heap.push (seqObj "list" #[] 0)).update s.heap.objs.size (Obj.mapSeq (· ++ vs.toArray))).push (seqObj "list" vs.toArray 0) }
  rw [size]
  apply wpAny_bind
  apply wpAny_holding
  refine wpAny_call_entry slot_list_sort ⟨_, made, rfl⟩ entry_list_sort (list_sort_treeKAny strKind_oneLt made hS.keysOf (fun v₁ v₂ rest e => keyKind_strs (by rw [← e]; exact hS)) few fun st hp hs => ⟨_, rfl, ?_⟩) (args_list_sort _)
  obtain ⟨zs, z1, z2, z3⟩ := sorted_out_str hS hp hs
  exact wpAny_pure ⟨_, rfl, h _ zs z1 z2 z3⟩
end
def rSortTx (K : PySem.W.Frag) : List V → Hp → VK → Prop := fun vs H Q => ∃ (a : Addr) (xs : List Str), vs = [V.ref a] ∧ SqT K H a (xs.map V.str) ∧ xs.length ≤ 1000 ∧ ∀ (ys : List Str) (p : Addr), ys.Perm xs → sortedS ys = true → H p = none → Q (.ref p) (upd H p (.lst (ys.map V.str)))
theorem cr_sortTx {X : Cx} : CallR X (.builtin "sorted") (rSortTx X.K) := by
  intro pins s σ H vs us Q I r h
  obtain ⟨a, xs, rfl, hs, few, q⟩ := h
  obtain ⟨its, rv, ht, _⟩ := I.tuple hs
  have l0 := rv.length
  rw [List.length_map] at l0
  have sm : ∀ n : Nat, n ≤ 1000 → n ≤ sizeLine := fun n hn => by rw [sizeLine_eq]; omega
  rw [Vals.ref1 r]
  refine texts_of_tup ht rv.strs (sm _ (by omega)) fun out ys y1 y2 y3 => ?_
  obtain ⟨ep, new⟩ := sortedAll_at s.heap its out
  have ly : (ys.map V.str).length ≤ sizeLine := by rw [List.length_map, y2.length_eq]; exact sm _ few
  refine ⟨.ref (s.heap.objs.size + 1), upd H (s.heap.objs.size + 1) (.lst (ys.map V.str)), I.laid (t' := s.toks) (fun _ _ => sortedAll_old) (Nat.le_succ _) ⟨ly, out.toList, ep, vals_of_strs y1, new⟩, rfl, ?_⟩
  exact q ys _ y2 y3 (I.hok.fresh (Nat.le_succ _))
/-- of a list or of a tuple -/
def rSortSq (K : PySem.W.Frag) : List V → Hp → VK → Prop := fun vs H Q => rSortedS K vs H Q ∨ rSortTx K vs H Q
theorem cr_sortSq {X : Cx} : CallR X (.builtin "sorted") (rSortSq X.K) := fun pins s σ H vs us Q I r h => h.elim (cr_sortedS pins s σ H vs us Q I r) (cr_sortTx pins s σ H vs us Q I r)
end L2.PKJ
/-! xs[-1] += e -/
namespace L2.PKAg
open PySem PySem.Spec PyProof.Rows L2
section
variable {X : Cx}
def rLastL (K : PySem.W.Frag) : R2 := fun x y H Q => ∃ p xs i v, x = .ref p ∧ y = .int i ∧ i < 0 ∧ SqL K H p xs ∧ atI xs i = some v ∧ Q v H
theorem pg_last : PGet X (rLastL X.K) := by
  intro pins s σ H x y v u Q I rx ry h
  obtain ⟨p, xs, i, z, rfl, rfl, hi, hq, he, q⟩ := h
  cases rx
  obtain ⟨t, rfl⟩ := ry
  obtain ⟨its, r, pl, hz⟩ := I.list hq
  obtain ⟨j, h1, h2, h3, h4, h5⟩ := atI_get he
  obtain ⟨w, ew, rw'⟩ := r.get h2
  have hl := r.length
  have hn := line63
  have hj : (i + (its.toArray.size : Int)).toNat = j := by
    rw [seqIndex_neg (by omega) h4] at h1
    rw [List.size_toArray, ← hl]
    exact Option.some.inj h1
  refine thn (wpAny_getItem_list_neg (Q := fun r s' => r = w ∧ EP X pins σ Q r s') pl.isList (by omega) (by rw [List.size_toArray] <;> omega) (by omega) (by rw [hj]; simpa using ew) ⟨rfl, ⟨z, H, I, rw', q⟩⟩) ?_
  intro r s' h
  exact h.2
end
/-! a method of a built-in type inside a comprehension: the fragment is named -/
section
variable {X : Cx} {T name id : String} {r : V → List V → Hp → VK → Prop} {o e : Expr} {es : List Expr} {to : TE} {t : TA} {apos cpos : Pos}
theorem pe_bmK {K : PySem.W.Frag} (hk : X.K = K) (pa : PlainAttrs T) (slot : Slot T name id) (hty : typeOf (.builtin id) = pure (.type "method_descriptor")) (hm : MtR X id r) (ho : PE X o to) (ha : PA X (e :: es) t)
    (hbase : attributeBase o name X.env (eval o X.env) = eval o X.env := by rfl)
    (hfew : ((backTo cpos (starEach (e :: es) X.env)).all (fun x => !x.1) && (backToKw cpos (keywordEach [] X.env)).all (fun x => x.1.isSome)
      && decide ((e :: es).length + ([] : List Keyword).length + (if ([] : List Keyword).isEmpty then 0 else 1) < 30)) = true := by rfl)
    (hline : (apos.endLine == cpos.line) = true := by rfl) (hs : starEach (e :: es) X.env = (false, eval e X.env) :: starEach es X.env := by rfl) (hplain : (backTo cpos (starEach es X.env)).any (·.1) = false := by rfl) :
    PE X (.Call (.Attribute o name apos) (e :: es) [] cpos) (tBM K T r to t) := by
  subst hk
  exact pe_bm pa slot hty hm ho ha hbase hfew hline hs hplain
end
end L2.PKAg
/-! name = {k: v for ..} on one line, the name a local -/
namespace L2.PKI
open PySem PySem.Spec L2
section
variable {X : Cx}
theorem swapsD {kx vx : Expr} {gs : List Comprehension} {scope : Scope} {pos py : Pos} {y : Str} {l : Nat} {env : Env} (fn : env.scope.kind = .function) (loc : env.scope.names.lookup y = some .local) (line : (py.line == pos.line) = true)
    (apart : (scope.names.any fun (n, k) => n == y && (k == .local || k == .cell)) = false) : swapsWith (.DictComp kx vx gs scope pos) (some (.Name y py)) l env = pure true := by
  have k1 : env.kindOf y = some .local := loc
  have k2 : env.blockKind = .function := by
    unfold Env.blockKind
    rw [fn] <;> rfl
  unfold swapsWith
  simp only [k2, k1, apart, Expr.pos, line] <;> rfl
theorem ps_setD {i : Nat} {y : Str} {py : Pos} {kx vx tg iter : Expr} {ifs : List Expr} {scope : Scope} {own : List (Str × Nat)} {pos spos : Pos} {wi : TI} {g : TG} {tt : TT} {tk tv : TE} (calm : X.calm = true) (nd : X.N.Nodup) (at_ : X.N[i]? = some y) (loc : X.env.scope.names.lookup y = some .local)
    (sw : swapsWith (.DictComp kx vx [⟨tg, iter, ifs, 0⟩] scope pos) (some (.Name y py)) spos.line X.env = pure true) (walk : PI X tg iter wi) (blk : BlkOk X.N X.env.scope scope own)
    (target : ∀ (s : Shared) (H : Hp) (C : Addr) (cl : List (Str × Addr)) (fp : List Addr), PG (X.blk s H scope (compEnvC scope cl C X.env) fp) tg g)
    (tests : ∀ (s : Shared) (H : Hp) (C : Addr) (cl : List (Str × Addr)) (fp : List Addr), PTs (X.blk s H scope (compEnvC scope cl C X.env) fp) ifs tt)
    (key : ∀ (s : Shared) (H : Hp) (C : Addr) (cl : List (Str × Addr)) (fp : List Addr), PE (X.blk s H scope (compEnvC scope cl C X.env) fp) kx tk)
    (val : ∀ (s : Shared) (H : Hp) (C : Addr) (cl : List (Str × Addr)) (fp : List Addr), PE (X.blk s H scope (compEnvC scope cl C X.env) fp) vx tv) (fold : ∀ x, foldedSetIterable iter X.env x = pure x := by intro _; rfl) :
    PS X (.Assign [.Name y py] (.DictComp kx vx [⟨tg, iter, ifs, 0⟩] scope pos) spos) (tAsg (tDc wi g tt tk tv (own.map (·.2))) (gName i)) := by
  constructor
  intro pins s σ H D I h
  rw [exec_Assign_Name_used _ _ _ _ sw]
  apply wpAny_bind
  apply wpAny_standAt
  apply wpAny_bind
  show wpAny _ X.A (do let _ ← comprehension (.DictComp kx vx [⟨tg, iter, ifs, 0⟩] scope pos) scope X.env (firstIterPos [⟨tg, iter, ifs, 0⟩] pos) newDict false (eval iter X.env) (some (assign (.Name y py) X.env))) _ _ s
  have h0 : tDc wi g tt tk tv (own.map (·.2)) σ H (fun x H1 => gName i x σ H1 D.nx) := h
  apply wpAny_bind
  refine thn (dc_core (Qf := fun _ s2 => SP X pins D .next s2) calm nd I walk blk target tests key val fold h0 fun L C s2 m H2 I2 q fresh f => ?_) fun _ s2 done => wpAny_pure (wpAny_pure done)
  show wpAny _ _ (assign (.Name y py) X.env (.ref L)) _ _ _
  apply wpAny_assign_Name
  refine store_ok2 (v := V.ref L) I2 nd at_ (.inl loc) rfl (fun s3 I3 ⟨a, sb, side⟩ => ?_) (.inr loc)
  obtain ⟨g0, g1, g2, g3, g4, g5⟩ := f
  have apart : C ≠ a := side.elim (fun z => by rw [z]; exact g1) fun z e => g4 y a z e.symm
  exact ⟨m, fresh.sameBut sb apart, fun h3 sb3 => ⟨_, H2, I3.turned (t' := s3.toks) (fun b o hb e => (sb3.2 b hb).trans e) g0 g1 g3 g4 g5, q⟩⟩
end
end L2.PKI
namespace PK
open PySem L2
def topS (i : Nat) : Stmt := PySem.Challenge.pw_passproven_k44_whole_passes_without_faul.main.body.getD i (.Pass ⟨0, 0, 0, 0⟩)
/-- xs[j] of a name -/
theorem vIx {K : PySem.W.Frag} {σ : L2.St} {H : Hp} {Q : VK} {i : Nat} {p : Addr} {xs : List V} {j : Int} {v : V} (h : σ[i]? = some (some (.ref p))) (hl : H p = some (.lst xs)) (ha : atI xs j = some v) (q : Q v H) :
    tOp (rIxL K) (tVar i) (tC (.int j)) σ H Q := ⟨_, h, p, xs, j, v, rfl, rfl, SqL.of hl, ha, q⟩
structure Txt (K : PySem.W.Frag) (mg : Str → Option Value) : Prop where
  z_len : mg "len" = none
  z_int : mg "int" = none
  z_range : mg "range" = none
  z_min : mg "min" = none
  z_str : mg "str" = none
  z_tuple : mg "tuple" = none
  z_sorted : mg "sorted" = none
  z_isinstance : mg "isinstance" = none
  z_any : mg "any" = none
  z_all : mg "all" = none
  z_list : mg "list" = none
  z_bool : mg "bool" = none
/-- all but what stands at l is as it was -/
def Keep (l : Addr) (H H' : Hp) : Prop := ∀ b o, b ≠ l → H b = some o → H' b = some o
def PoolR (H : Hp) (l c : Addr) (pos : Prop) : Prop := ∃ (ns : List Int) (i r s : Int), H l = some (.lst [.ref c, .int i, .int r, .int s]) ∧ H c = some (.lst (ns.map V.int)) ∧ c ≠ l ∧ (∀ n ∈ ns, 0 ≤ n) ∧ 0 ≤ i ∧ 0 ≤ r ∧ 0 ≤ s ∧ s < 2147483647 ∧ (pos → 0 < r)
abbrev Pool (H : Hp) (l c : Addr) : Prop := PoolR H l c False
/-- from H to H' the pool at l was drawn from, all else is kept -/
structure Ext (l c : Addr) (H H' : Hp) : Prop where
  keep : Keep l H H'
  pool : Pool H' l c
theorem Pool.ne {H : Hp} {l c p : Addr} (P : Pool H l c) (h : H p = none) : p ≠ l ∧ p ≠ c := by
  obtain ⟨ns, i, r, s, hl, hc, _⟩ := P
  exact ⟨(ne_of_none hl h).symm, (ne_of_none hc h).symm⟩
theorem Pool.upd {H : Hp} {l c p : Addr} {o : HO} (P : Pool H l c) (h1 : p ≠ l) (h2 : p ≠ c) : Pool (upd H p o) l c := by
  obtain ⟨ns, i, r, s, hl, hc, z⟩ := P
  exact ⟨ns, i, r, s, by rw [upd_ne h1.symm]; exact hl, by rw [upd_ne h2.symm]; exact hc, z⟩
theorem Ext.refl {l c : Addr} {H : Hp} (P : Pool H l c) : Ext l c H H := ⟨fun _ _ _ h => h, P⟩
theorem Ext.trans {l c : Addr} {H H1 H2 : Hp} (x : Ext l c H H1) (y : Ext l c H1 H2) : Ext l c H H2 := ⟨fun b o hb h => y.keep b o hb (x.keep b o hb h), y.pool⟩
/-- what was free ahead of the draws was free -/
theorem Ext.free {l c p : Addr} {H H' : Hp} (x : Ext l c H H') (P : Pool H l c) (h : H' p = none) : H p = none := by
  cases e : H p with
  | none => rfl
  | some o =>
    by_cases hb : p = l
    · subst hb
      obtain ⟨ns, i, r, s, hl, _⟩ := x.pool
      rw [hl] at h; cases h
    · rw [x.keep p o hb e] at h; cases h
theorem Ext.upd {l c p : Addr} {H H' : Hp} {o : HO} (x : Ext l c H H') (P : Pool H l c) (h : H p = none) : Ext l c H (L2.upd H' p o) :=
  ⟨fun b u hb hu => by rw [upd_ne (ne_of_none hu h)]; exact x.keep b u hb hu, x.pool.upd (P.ne h).1 (P.ne h).2⟩
theorem Ext.new {l c p : Addr} {H H' : Hp} {o : HO} (x : Ext l c H H') (P : Pool H l c) (h : H' p = none) : Ext l c H (L2.upd H' p o) := x.upd P (x.free P h)
theorem Ext.seqT {l c a : Addr} {K : PySem.W.Frag} {H H' : Hp} {xs : List V} (x : Ext l c H H') (P : Pool H l c) (h : SqT K H a xs) : SqT K H' a xs := by
  have nl : ∀ {o : HO}, H a = some o → (∀ ys, o ≠ .lst ys) → a ≠ l := fun e d z => by
    subst z
    obtain ⟨ns, i, r, s, hl, _⟩ := P
    rw [hl] at e; cases e
    exact d _ rfl
  rcases h with (h | ⟨o, h⟩) | h
  · exact .inl (.inl (x.keep _ _ (nl h (fun _ => HO.noConfusion)) h))
  · exact .inl (.inr ⟨o, x.keep _ _ (nl h (fun _ => HO.noConfusion)) h⟩)
  · exact .inr h
def spTake (n : Nat) : Sp := fun vs H Q _ => ∃ (l c : Addr) (m : Int) (p : Prop), vs = [.ref l, .int m] ∧ PoolR H l c p ∧ 0 < m ∧ m < 18446744073709551616 ∧ (2 ≤ n ∨ (1 ≤ n ∧ p)) ∧
  ∀ (d : Int) (H' : Hp), 0 ≤ d → d < m → Ext l c H H' → Q (.int d) H'
theorem vTake {σ : L2.St} {H : Hp} {Q : VK} {i : Nat} {m : Int} {l c : Addr} (h : σ[i]? = some (some (.ref l))) (P : Pool H l c) (h0 : 0 < m) (hm : m < 18446744073709551616)
    (q : ∀ (d : Int) (H' : Hp), 0 ≤ d → d < m → Ext l c H H' → Q (.int d) H') : tCall (spTake 2) [] E0 (tCons (tVar i) (tCons (tC (.int m)) tNil)) σ H Q :=
  ⟨_, h, l, c, m, False, rfl, P, h0, hm, .inl (Nat.le_refl 2), q⟩
section
variable {P : Program} {w : World} {K : PySem.W.Frag} {mg : Str → Option Value} {base : Heap}
abbrev s_law_take : Stmt := topS 107
theorem sc_law_take : FnScope ["pool", "many", "digit", "cell", "mixed"] ["pool", "many"] (defScope s_law_take) := ⟨rfl, rfl, rfl, by decide +kernel, rfl, by decide +kernel, by decide +kernel⟩
-- slots: 0:pool 1:many 2:digit 3:cell 4:mixed
theorem ok_take {n : Nat} {f : Addr} {fd : FuncData} (F : Fun K "_law_take" "_law_take" s_law_take f fd) (T : Txt K mg) (C_law_take : C8.Cal P w K mg base n "_law_take" (spTake n) []) :
    FnOk P w K mg base CX0 (n + 1) f fd ["pool", "many"] (spTake (n + 1)) := by
  refine F.ok sc_law_take (fun vs H Q E h => ?_) (fun cdv A outer s H vs Q E hr h => ?_)
  · obtain ⟨l, c, m, p, rfl, _⟩ := h
    rfl
  obtain ⟨l, c, m, p, rfl, ⟨ns, i, r, st, hl, hc, hcl, hns, hi, h0r, hs, hs2, hp⟩, hm, hm2, hn, q⟩ := h
  have hk : n ≤ n := Nat.le_refl n
  refine ⟨_, (pss_cons (ps_if (pt_cmpR op_gt (pe_ix ix_list (pv 0) pe_int (fun _ _ => rfl)) pe_int (nomark _)) (pss_cons (ps_set (i := 2) sc_law_take.nd rfl (Or.inl rfl) (pe_op op_mod (pe_callTy call_int1 (by rfl) T.z_int (by decide +kernel) (pa_cons (pe_ix ix_list (pv 0) pe_int (fun _ _ => rfl)) pa_nil)) (pv 1)))
    (pss_cons (ps_asg (pe_op op_fdivW (pe_ix ix_list (pv 0) pe_int (fun _ _ => rfl)) (pv 1)) (pg_sub (pv 0) pe_int set_list))
    (pss_one (ps_ret (pv 2))))) pss_nil)
    (pss_cons (ps_set (i := 3) sc_law_take.nd rfl (Or.inl rfl) pe_int)
    (C8.pss_cut (ps_if (pt_cmpR op_lt (pe_ix ix_list (pv 0) pe_int (fun _ _ => rfl)) (pe_callB call_len_seq (by rfl) T.z_len (by decide +kernel) (pa_cons (pe_ix ix_list (pv 0) pe_int (fun _ _ => rfl)) pa_nil)) (nomark _)) (pss_one (ps_set (i := 3) sc_law_take.nd rfl (Or.inl rfl) (pe_ix ix_list (pe_ix ix_list (pv 0) pe_int (fun _ _ => rfl)) (pe_ix ix_list (pv 0) pe_int (fun _ _ => rfl)) (fun _ _ => rfl)))) pss_nil)
    (pss_cons (ps_asg (pe_op op_add (pe_ix ix_list (pv 0) pe_int (fun _ _ => rfl)) pe_int) (pg_sub (pv 0) pe_int set_list))
    (pss_cons (ps_if (pt_cmpR op_ge (pv 3) (pe_op op_pow pe_int pe_int) (nomark _)) (pss_cons (ps_asg (pe_op op_fdivW (pv 3) pe_int) (pg_sub (pv 0) pe_int set_list))
    (pss_one (ps_ret (C8.pe_c C_law_take hr hk rfl (pa_cons (pv 0) (pa_cons (pv 1) pa_nil)))))) pss_nil)
    (pss_cons (ps_asg (pe_op op_mod (pe_callTy call_int1 (by rfl) T.z_int (by decide +kernel) (pa_cons (pe_op op_add (pe_op op_add (pe_op op_mul (pe_ix ix_list (pv 0) pe_int (fun _ _ => rfl)) pe_int) (pe_op op_mul (pv 3) pe_int)) (pe_op op_mul (pe_ix ix_list (pv 0) pe_int (fun _ _ => rfl)) pe_int)) pa_nil)) pe_int) (pg_sub (pv 0) pe_int set_list))
    (pss_cons (ps_set (i := 4) sc_law_take.nd rfl (Or.inl rfl) (pe_op op_mod (pe_callTy call_int1 (by rfl) T.z_int (by decide +kernel) (pa_cons (pe_op op_add (pe_op op_add (pe_op op_mul (pe_ix ix_list (pv 0) pe_int (fun _ _ => rfl)) (pe_ix ix_list (pv 0) pe_int (fun _ _ => rfl))) (pe_op op_mul (pe_ix ix_list (pv 0) pe_int (fun _ _ => rfl)) pe_int)) pe_int) pa_nil)) pe_int))
    (pss_one (ps_ret (pe_op op_mod (pe_callTy call_int1 (by rfl) T.z_int (by decide +kernel) (pa_cons (pe_op op_fdivW (pv 4) pe_int) pa_nil)) (pv 1))))))))))), ?_⟩
  have lgm : m.natAbs.log2 < 9000 := (wide_div (i := 0) (b := 64) hm (by rw [show (2 : Nat) ^ 64 = 18446744073709551616 from rfl]; omega) (by decide) (by decide)).2
  have lg2 : (2 : Int).natAbs.log2 < 9000 := by decide
  have ext : ∀ i' r' s' : Int, 0 ≤ i' → 0 ≤ r' → 0 ≤ s' → s' < 2147483647 → ∀ pp : Prop, (pp → 0 < r') → Keep l H (upd H l (.lst [.ref c, .int i', .int r', .int s'])) ∧ PoolR (upd H l (.lst [.ref c, .int i', .int r', .int s'])) l c pp := fun i' r' s' h1 h2 h3 h4 pp hpp =>
    ⟨fun b o hb hbo => by rw [upd_ne hb]; exact hbo, ns, i', r', s', upd_same, by rw [upd_ne hcl]; exact hc, hcl, hns, h1, h2, h3, h4, hpp⟩
  -- pool[2] > 0
  refine vIx rfl hl rfl ⟨_, _, rfl, rfl, _, rfl, ?_⟩
  refine ite2 (fun e => ?_) (fun e => ?_)
  · have e' : 0 < r := of_decide_eq_true e
    refine ⟨_, rfl, l, _, _, _, rfl, rfl, SqL.of hl, rfl, .inl ⟨_, rfl, _, rfl, _, _, rfl, rfl, hm, ?_⟩⟩
    refine vIx rfl hl rfl ⟨_, rfl, _, _, rfl, rfl, ⟨hm, lgm⟩, ?_⟩
    refine ⟨_, rfl, l, _, 2, 2, rfl, rfl, hl, rfl, _, rfl, ?_⟩
    have z := ext i (r / m) st hi (Int.ediv_nonneg h0r (by omega)) hs hs2 False False.elim
    exact q _ _ (Int.emod_nonneg _ (by omega)) (Int.emod_lt_of_pos _ hm) ⟨z.1, z.2⟩
  · have e0 : r = 0 := by have := of_decide_eq_false (Bool.eq_false_iff.mpr e); omega
    subst e0
    have n2 : 1 ≤ n := by
      rcases hn with hn | ⟨_, hn⟩
      · omega
      · exact absurd (hp hn) (by omega)
    refine ⟨fun σ' H' => ∃ z : Int, 0 ≤ z ∧ σ' = [some (.ref l), some (.int m), none, some (.int z), none] ∧ H' = H, ?_, ?_⟩
    · refine vIx rfl hl rfl (vIx rfl hl rfl ⟨c, _, rfl, .inl (SqL.of hc), _, _, rfl, rfl, _, rfl, ?_⟩)
      refine ite2 (fun e1 => ?_) (fun e1 => ⟨0, by omega, rfl, rfl⟩)
      have e1' : i < ((ns.map V.int).length : Nat) := of_decide_eq_true e1
      rw [List.length_map] at e1'
      obtain ⟨j, rfl⟩ : ∃ j : Nat, i = j := ⟨i.toNat, by omega⟩
      have hj : j < ns.length := by omega
      have g : (ns.map V.int)[j]? = some (.int ns[j]) := by rw [List.getElem?_map, List.getElem?_eq_getElem hj]; rfl
      refine vIx rfl hl rfl (vIx rfl hl rfl ⟨c, _, _, _, rfl, rfl, SqL.of hc, atI_nat g, ?_⟩)
      exact ⟨_, hns _ (List.getElem_mem hj), rfl, rfl⟩
    · rintro σ' H' ⟨z, hz, rfl, rfl⟩
      refine vIx rfl hl rfl ⟨_, _, rfl, rfl, _, rfl, l, _, 1, 1, rfl, rfl, hl, rfl, ?_⟩
      refine ⟨_, rfl, _, _, rfl, rfl, ⟨by decide, by decide, by decide⟩, _, _, rfl, rfl, _, rfl, ?_⟩
      refine ite2 (fun e1 => ?_) (fun e1 => ?_)
      · have e1' : (10 : Int) ^ 18 ≤ z := of_decide_eq_true e1
        refine ⟨_, rfl, _, _, rfl, rfl, ⟨by decide, lg2⟩, _, rfl, l, _, 2, 2, rfl, rfl, upd_same, rfl, ?_⟩
        refine ⟨_, rfl, _, rfl, ?_⟩
        have zz := ext (i + 1) (z / 2) st (by omega) (Int.ediv_nonneg hz (by omega)) hs hs2 True (fun _ => by omega)
        refine ⟨l, c, m, True, rfl, ?_, hm, hm2, .inr ⟨n2, trivial⟩, fun d H' h1 h2 x => q d H' h1 h2 ⟨?_, x.pool⟩⟩
        · show PoolR (upd (upd H' l _) l _) l c True
          rw [upd_upd]
          exact zz.2
        · intro b o hb hbo
          refine x.keep b o hb ?_
          show upd (upd _ l _) l _ b = _
          rw [upd_upd, upd_ne hb]
          exact hbo
      · have c1 : CMul st 48271 := .inr ⟨by decide, by decide⟩
        have c2 : CMul z 69621 := .inr ⟨by decide, by decide⟩
        have c3 : CMul (i + 1) 613 := .inr ⟨by decide, by decide⟩
        refine vIx rfl upd_same rfl ⟨_, _, rfl, rfl, c1, _, rfl, _, _, rfl, rfl, c2, _, _, rfl, rfl, vIx rfl upd_same rfl ⟨_, _, rfl, rfl, c3, _, _, rfl, rfl, .inl ⟨_, rfl, _, _, rfl, rfl, (show (0 : Int) < 2147483647 by decide), ?_⟩⟩⟩
        refine ⟨_, rfl, l, _, 3, 3, rfl, rfl, upd_same, rfl, ?_⟩
        have b1 : 0 ≤ (st * 48271 + z * 69621 + (i + 1) * 613) % 2147483647 := Int.emod_nonneg _ (by decide)
        have b2 : (st * 48271 + z * 69621 + (i + 1) * 613) % 2147483647 < 2147483647 := Int.emod_lt_of_pos _ (by decide)
        have c4 : CMul ((st * 48271 + z * 69621 + (i + 1) * 613) % 2147483647) ((st * 48271 + z * 69621 + (i + 1) * 613) % 2147483647) := .inr ⟨by omega, by omega⟩
        have c5 : CMul ((st * 48271 + z * 69621 + (i + 1) * 613) % 2147483647) 7919 := .inr ⟨by decide, by decide⟩
        refine vIx rfl upd_same rfl (vIx rfl upd_same rfl ⟨_, _, rfl, rfl, c4, vIx rfl upd_same rfl ⟨_, _, rfl, rfl, c5, _, _, rfl, rfl, _, _, rfl, rfl, .inl ⟨_, rfl, _, _, rfl, rfl, (show (0 : Int) < 1000000007 by decide), ?_⟩⟩⟩)
        have c6 : CDivW ((((st * 48271 + z * 69621 + (i + 1) * 613) % 2147483647) * ((st * 48271 + z * 69621 + (i + 1) * 613) % 2147483647) + ((st * 48271 + z * 69621 + (i + 1) * 613) % 2147483647) * 7919 + 104729) % 1000000007) 3 := ⟨by decide, by decide⟩
        refine ⟨_, rfl, _, _, rfl, rfl, c6, .inl ⟨_, rfl, _, rfl, _, _, rfl, rfl, hm, ?_⟩⟩
        have zz := ext (i + 1) 0 ((st * 48271 + z * 69621 + (i + 1) * 613) % 2147483647) (by omega) (by omega) b1 b2 False False.elim
        refine q _ _ (Int.emod_nonneg _ (by omega)) (Int.emod_lt_of_pos _ hm) ⟨?_, ?_⟩
        · show Keep l _ (upd (upd _ l _) l _)
          rw [upd_upd]
          exact zz.1
        · show Pool (upd (upd _ l _) l _) l c
          rw [upd_upd]
          exact zz.2
end
end PK
namespace PK
open PySem L2
/-! ### words -/
abbrev LET : Str := "abcdefghijklmnopqrstuvwxyz"
abbrev OTH : Str := "abcdefghijklmnopqrstuvwxyz0123456789_"
abbrev BARRED : List Str := ["get", "set", "plus", "minus", "new", "read", "write", "put"]
theorem let_len : LET.cps.toList.length = 26 := by decide +kernel
theorem oth_len : OTH.cps.toList.length = 37 := by decide +kernel
theorem line_big : (16777216 : Nat) ≤ sizeLine := by rw [sizeLine_eq]; decide
theorem small {n : Nat} (h : n ≤ 16777216) : n ≤ sizeLine := Nat.le_trans h line_big
theorem smallL {n : Nat} (h : n < 16777216) : n < sizeLine := Nat.lt_of_lt_of_le h line_big
theorem len_list (z : Str) : z.length = z.cps.toList.length := by unfold Str.length; simp
theorem yes_ {A B : Hp → Prop} {σ : L2.St} {H : Hp} (h : A H) : tYes σ H fun b H3 => if b = true then A H3 else B H3 := by
  show if true = true then A H else B H
  exact iteT h
/-- a drawn sign of a text -/
theorem strAt (z : Str) {n : Nat} (hz : z.cps.toList.length = n) (hn : n ≤ 1000) {d : Int} {H : Hp} {Q : VK} (h0 : 0 ≤ d) (h1 : d < (n : Int)) (q : ∀ s : Nat, s ∈ z.cps.toList → Q (.str ⟨#[s]⟩) H) : rIxS (.str z) (.int d) H Q := by
  obtain ⟨j, rfl⟩ : ∃ j : Nat, d = j := ⟨d.toNat, by omega⟩
  have hj : j < z.cps.toList.length := by omega
  exact ⟨z, _, _, rfl, rfl, by rw [len_list, hz]; exact small (by omega), atI_nat (List.getElem?_eq_getElem hj), q _ (List.getElem_mem hj)⟩
/-- the j-th word that is tried for the k-th place -/
def cand (j k : Nat) : Str := ("w" : Str) ++ (toString (j : Int) : Str) ++ ("_" : Str) ++ (toString (k : Int) : Str)
def pre (j : Nat) : Str := ("w" : Str) ++ (toString (j : Int) : Str) ++ ("_" : Str)
theorem pre_len : ∀ j, j < 27 → (pre j).length ≤ 4 := by decide +kernel
theorem str_len : ∀ j : Nat, j < 27 → ((toString (j : Int) : String) : Str).length ≤ 2 := by decide +kernel
theorem pre_inj : ∀ i, i < 27 → ∀ j, j < 27 → pre i = pre j → i = j := by decide +kernel
theorem app_cancel {a b t : Str} (h : a ++ t = b ++ t) : a = b := by
  have e : a.cps ++ t.cps = b.cps ++ t.cps := congrArg Str.cps h
  have e2 : a.cps.toList ++ t.cps.toList = b.cps.toList ++ t.cps.toList := by
    have := congrArg Array.toList e
    simpa using this
  exact Str.ext' (Array.toList_inj.mp (List.append_cancel_right e2))
theorem cand_inj {i j k : Nat} (hi : i < 27) (hj : j < 27) (h : cand i k = cand j k) : i = j := pre_inj i hi j hj (app_cancel h)
theorem cand_len {j k : Nat} (hj : j < 27) (hk : k < 27) : (cand j k).length ≤ 6 := by
  have h1 := pre_len j hj
  have h2 := str_len k hk
  show (pre j ++ _).length ≤ 6
  rw [Str.length_append]
  omega
theorem cand_bar (j k : Nat) : cand j k ∉ BARRED := by
  have h1 : 95 ∈ (cand j k).cps.toList := by
    show 95 ∈ ((((("w" : Str).cps ++ ((toString (j : Int) : String) : Str).cps) ++ ("_" : Str).cps) ++ ((toString (k : Int) : String) : Str).cps)).toList
    have e : ("_" : Str).cps.toList = [95] := by decide +kernel
    simp only [Array.toList_append, e, List.mem_append, List.mem_singleton]
    exact .inl (.inr trivial)
  have h2 : ∀ b ∈ BARRED, 95 ∉ b.cps.toList := by decide +kernel
  exact fun m => h2 _ m h1
theorem inj_le : ∀ (l m : List Str), l.Nodup → (∀ x ∈ l, x ∈ m) → l.length ≤ m.length
  | [], _, _, _ => Nat.zero_le _
  | x :: r, m, hn, hm => by
    obtain ⟨h1, h2⟩ := List.nodup_cons.mp hn
    have hx := hm x List.mem_cons_self
    have ih := inj_le r (m.erase x) h2 fun y hy => (List.mem_erase_of_ne (fun e => h1 (by rw [← e]; exact hy))).mpr (hm y (List.mem_cons_of_mem _ hy))
    rw [List.length_erase_of_mem hx] at ih
    have : 0 < m.length := List.length_pos_of_mem hx
    rw [List.length_cons]
    omega
/-- not all of m tried words stand in a list of fewer than m -/
theorem pigeon {m k : Nat} {ws : List Str} (hm : m < 27) (hl : ws.length < m) (h : ∀ t, t < m → cand t k ∈ ws) : False := by
  have n : ((List.range m).map fun t => cand t k).Nodup := by
    rw [List.Nodup, List.pairwise_map]
    refine List.Pairwise.imp_of_mem ?_ List.nodup_range
    intro a b ha hb hab e
    exact hab (cand_inj (Nat.lt_trans (List.mem_range.mp ha) hm) (Nat.lt_trans (List.mem_range.mp hb) hm) e)
  have := inj_le _ ws n fun x hx => by
    obtain ⟨t, ht, rfl⟩ := List.mem_map.mp hx
    exact h t (List.mem_range.mp ht)
  rw [List.length_map, List.length_range] at this
  omega
theorem inV_str (u : Str) : ∀ ws : List Str, inV (.str u) (ws.map V.str) = decide (u ∈ ws)
  | [] => by simp [inV]
  | x :: r => by
    have ih := inV_str u r
    unfold inV at ih ⊢
    rw [List.map_cons, List.any_cons, ih]
    show ((x == u) || decide (u ∈ r)) = _
    by_cases e : x = u
    · subst e; simp
    · have e2 : (x == u) = false := by simpa using e
      rw [e2, Bool.false_or]
      by_cases h : u ∈ r
      · simp [h]
      · simp [h, Ne.symm e]
theorem flat_strs (ws : List Str) : (ws.map V.str).all flatV = true := by
  rw [List.all_eq_true]
  intro x hx
  obtain ⟨s, _, rfl⟩ := List.mem_map.mp hx
  rfl
/-- signs of words -/
def one (s : Nat) : Str := ⟨#[s]⟩
def Ones (ss : List Nat) : Prop := ∀ s ∈ ss, s ∈ OTH.cps.toList
theorem join_one : ∀ ss : List Nat, (Str.join "" (ss.map one)).cps.toList = ss
  | [] => rfl
  | [s] => rfl
  | s :: t :: r => by
    have ih := join_one (t :: r)
    have e : ("" : Str).cps.toList = [] := by decide +kernel
    show ((one s).cps ++ ("" : Str).cps ++ (Str.join "" ((t :: r).map one)).cps).toList = _
    rw [Array.toList_append, Array.toList_append, ih, e]
    rfl
theorem txt_join (ss : List Nat) : (Txt.join "" (ss.map one)).cps.toList = ss := by
  show (Builtin.Str.glued ("" : Str) (ss.map one)).cps.toList = ss
  rw [StrLaws.glued_eq_join]
  exact join_one ss
theorem one_sum (ss : List Nat) : ((ss.map one).map (·.length)).sum = ss.length := by
  induction ss with
  | nil => rfl
  | cons s r ih =>
    rw [List.map_cons, List.map_cons, List.sum_cons, ih, List.length_cons]
    show 1 + r.length = _
    omega
/-- a word: signs that words have, the first one a letter -/
structure Wd (x : Str) : Prop where
  lo : 1 ≤ x.length
  hi : x.length ≤ 12
  hd : ∃ s r, x.cps.toList = s :: r ∧ s ∈ LET.cps.toList
  al : ∀ s ∈ x.cps.toList, s ∈ OTH.cps.toList
theorem Wd.of {x : Str} {s : Nat} {r : List Nat} (e : x.cps.toList = s :: r) (hs : s ∈ LET.cps.toList) (ho : Ones r) (hl : r.length ≤ 11) : Wd x where
  lo := by rw [len_list, e, List.length_cons]; omega
  hi := by rw [len_list, e, List.length_cons]; omega
  hd := ⟨s, r, e, hs⟩
  al := fun z hz => by
    rw [e] at hz
    rcases List.mem_cons.mp hz with h | h
    · rw [h]
      have : ∀ s ∈ LET.cps.toList, s ∈ OTH.cps.toList := by decide +kernel
      exact this s hs
    · exact ho z h
theorem pre_wd : ∀ j, j < 27 → ∀ s ∈ (pre j).cps.toList, s ∈ OTH.cps.toList := by decide +kernel
theorem num_wd : ∀ j : Nat, j < 27 → ∀ s ∈ ((toString (j : Int) : String) : Str).cps.toList, s ∈ OTH.cps.toList := by decide +kernel
theorem pre_hd : ∀ j, j < 27 → (pre j).cps.toList[0]? = some 119 := by decide +kernel
theorem cand_wd {j k : Nat} (hj : j < 27) (hk : k < 27) : Wd (cand j k) := by
  have e : (cand j k).cps.toList = (pre j).cps.toList ++ ((toString (k : Int) : String) : Str).cps.toList := by
    show ((pre j).cps ++ ((toString (k : Int) : String) : Str).cps).toList = _
    rw [Array.toList_append]
  have h0 := pre_hd j hj
  cases e1 : (pre j).cps.toList with
  | nil => rw [e1] at h0; cases h0
  | cons s r =>
    rw [e1] at h0 e
    have hs : s = 119 := Option.some.inj h0
    refine Wd.of (s := s) (r := r ++ ((toString (k : Int) : String) : Str).cps.toList) e (by rw [hs]; decide +kernel) (fun z hz => ?_) ?_
    · rcases List.mem_append.mp hz with h | h
      · exact pre_wd j hj z (by rw [e1]; exact List.mem_cons_of_mem _ h)
      · exact num_wd k hk z h
    · have h1 := pre_len j hj
      have h2 := str_len k hk
      rw [len_list] at h1 h2
      rw [e1, List.length_cons] at h1
      rw [List.length_append]
      omega
theorem let_oth : ∀ s ∈ LET.cps.toList, s ∈ OTH.cps.toList := by decide +kernel
theorem ixN_of {n : Nat} {k : Int} (h0 : 0 ≤ k) (h1 : k < (n : Int)) : ixN n k = some k.toNat := by
  unfold ixN
  rw [if_pos h0, if_pos h1]
theorem Ones.set {row : List Nat} (h : Ones row) {s : Nat} (hs : s ∈ OTH.cps.toList) (j : Nat) : Ones (row.set j s) := fun x hx => by
  rcases List.mem_or_eq_of_mem_set hx with h1 | h1
  · exact h x h1
  · rw [h1]; exact hs
/-- the signs of a word, one of them another letter -/
theorem set_hd {s0 : Nat} {r : List Nat} (h0 : s0 ∈ LET.cps.toList) (hr : Ones r) {s : Nat} (hs : s ∈ LET.cps.toList) (j : Nat) : ∃ s1 r1, (s0 :: r).set j s = s1 :: r1 ∧ s1 ∈ LET.cps.toList ∧ Ones r1 ∧ r1.length = r.length := by
  cases j with
  | zero => exact ⟨s, r, rfl, hs, hr, rfl⟩
  | succ j => exact ⟨s0, r.set j s, rfl, h0, hr.set (let_oth _ hs) j, List.length_set ..⟩
end PK
namespace PK
open PySem L2
/-! ### data of tuples -/
mutual
inductive Dt (K : PySem.W.Frag) (H : Hp) : V → PyData → Prop
  | non : Dt K H .non .none
  | bl (b : Bool) : Dt K H (.bl b) (.bool b)
  | int (i : Int) : Dt K H (.int i) (.int i)
  | str (x : Str) : Dt K H (.str x) (.str x)
  | tup {a : Addr} {xs : List V} {ds : List PyData} : SqT K H a xs → DtAll K H xs ds → Dt K H (.ref a) (.tuple ds)
inductive DtAll (K : PySem.W.Frag) (H : Hp) : List V → List PyData → Prop
  | nil : DtAll K H [] []
  | cons {v : V} {vs : List V} {d : PyData} {ds : List PyData} : Dt K H v d → DtAll K H vs ds → DtAll K H (v :: vs) (d :: ds)
end
section
variable {K : PySem.W.Frag} {H H' : Hp}
mutual
theorem Dt.dp : ∀ (d : PyData) (v : V), Dt K H v d → Dp K H v d
  | .none, _, h => by cases h; exact .non
  | .bool _, _, h => by cases h; exact .bl _
  | .int _, _, h => by cases h; exact .int _
  | .str _, _, h => by cases h; exact .str _
  | .list _, _, h => by cases h
  | .dict _, _, h => by cases h
  | .tuple ds, _, h => by
    cases h with
    | tup s a => exact .tup s (DtAll.dp ds _ a)
theorem DtAll.dp : ∀ (ds : List PyData) (vs : List V), DtAll K H vs ds → DpAll K H vs ds
  | [], _, h => by cases h; exact .nil
  | d :: ds, _, h => by
    cases h with
    | cons h1 h2 => exact .cons (Dt.dp d _ h1) (DtAll.dp ds _ h2)
end
mutual
theorem Dt.mono (hT : ∀ a xs, SqT K H a xs → SqT K H' a xs) : ∀ (d : PyData) (v : V), Dt K H v d → Dt K H' v d
  | .none, _, h => by cases h; exact .non
  | .bool _, _, h => by cases h; exact .bl _
  | .int _, _, h => by cases h; exact .int _
  | .str _, _, h => by cases h; exact .str _
  | .list _, _, h => by cases h
  | .dict _, _, h => by cases h
  | .tuple ds, _, h => by
    cases h with
    | tup s a => exact .tup (hT _ _ s) (DtAll.mono hT ds _ a)
theorem DtAll.mono (hT : ∀ a xs, SqT K H a xs → SqT K H' a xs) : ∀ (ds : List PyData) (vs : List V), DtAll K H vs ds → DtAll K H' vs ds
  | [], _, h => by cases h; exact .nil
  | d :: ds, _, h => by
    cases h with
    | cons h1 h2 => exact .cons (Dt.mono hT d _ h1) (DtAll.mono hT ds _ h2)
end
theorem Same.seqT {a : Addr} {xs : List V} (e : Same H H') (h : SqT K H a xs) : SqT K H' a xs := by
  rcases h with (h | ⟨o, h⟩) | h
  · exact .inl (.inl (e _ _ h))
  · exact .inl (.inr ⟨o, e _ _ h⟩)
  · exact .inr h
theorem Dt.same {d : PyData} {v : V} (h : Dt K H v d) (e : Same H H') : Dt K H' v d := Dt.mono (fun _ _ q => Same.seqT e q) d v h
theorem Dt.ext {l c : Addr} {d : PyData} {v : V} (h : Dt K H v d) (P : Pool H l c) (x : Ext l c H H') : Dt K H' v d := Dt.mono (fun _ _ q => x.seqT P q) d v h
theorem same_new {p : Addr} {o : HO} (h : H p = none) : Same H (upd H p o) := fun b u e => by
  rw [upd_ne (ne_of_none e h)]
  exact e
theorem Dt.new {d : PyData} {v : V} {p : Addr} {o : HO} (h : Dt K H v d) (hp : H p = none) : Dt K (upd H p o) v d := h.same (same_new hp)
theorem Dt.s {v : V} {x : Str} (h : Dt K H v (.str x)) : v = .str x := by cases h; rfl
theorem Dt.i {v : V} {x : Int} (h : Dt K H v (.int x)) : v = .int x := by cases h; rfl
theorem Dt.t1 {v : V} {d : PyData} (h : Dt K H v (.tuple [d])) : ∃ a x, v = .ref a ∧ SqT K H a [x] ∧ Dt K H x d := by
  cases h with
  | tup s a => cases a with
    | cons h1 r => cases r; exact ⟨_, _, rfl, s, h1⟩
theorem Dt.t2 {v : V} {d e : PyData} (h : Dt K H v (.tuple [d, e])) : ∃ a x y, v = .ref a ∧ SqT K H a [x, y] ∧ Dt K H x d ∧ Dt K H y e := by
  cases h with
  | tup s a => cases a with
    | cons h1 r => cases r with
      | cons h2 r => cases r; exact ⟨_, _, _, rfl, s, h1, h2⟩
theorem Dt.t3 {v : V} {d e f : PyData} (h : Dt K H v (.tuple [d, e, f])) : ∃ a x y z, v = .ref a ∧ SqT K H a [x, y, z] ∧ Dt K H x d ∧ Dt K H y e ∧ Dt K H z f := by
  cases h with
  | tup s a => cases a with
    | cons h1 r => cases r with
      | cons h2 r => cases r with
        | cons h3 r => cases r; exact ⟨_, _, _, _, rfl, s, h1, h2, h3⟩
theorem Dt.tn {v : V} {ds : List PyData} (h : Dt K H v (.tuple ds)) : ∃ a xs, v = .ref a ∧ SqT K H a xs ∧ DtAll K H xs ds := by
  cases h with
  | tup s a => exact ⟨_, _, rfl, s, a⟩
theorem Dt.mk2 {p : Addr} {x y : V} {d e : PyData} (hp : H p = none) (h1 : Dt K H x d) (h2 : Dt K H y e) : Dt K (upd H p (.tup [x, y])) (.ref p) (.tuple [d, e]) :=
  .tup (SqT.of upd_same) (.cons (h1.new hp) (.cons (h2.new hp) .nil))
theorem Dt.mk3 {p : Addr} {x y z : V} {d e f : PyData} (hp : H p = none) (h1 : Dt K H x d) (h2 : Dt K H y e) (h3 : Dt K H z f) : Dt K (upd H p (.tup [x, y, z])) (.ref p) (.tuple [d, e, f]) :=
  .tup (SqT.of upd_same) (.cons (h1.new hp) (.cons (h2.new hp) (.cons (h3.new hp) .nil)))
theorem Dt.mk1 {p : Addr} {x : V} {d : PyData} (hp : H p = none) (h1 : Dt K H x d) : Dt K (upd H p (.tup [x])) (.ref p) (.tuple [d]) :=
  .tup (SqT.of upd_same) (.cons (h1.new hp) .nil)
end
/-- xs[j] of a name, a tuple -/
theorem vTx {K : PySem.W.Frag} {σ : L2.St} {H : Hp} {Q : VK} {i : Nat} {p : Addr} {xs : List V} {j : Int} {v : V} (h : σ[i]? = some (some (.ref p))) (hl : SqT K H p xs) (ha : atI xs j = some v) (q : Q v H) :
    tOp (rIxT K) (tVar i) (tC (.int j)) σ H Q := ⟨_, h, p, xs, j, v, rfl, rfl, hl, ha, q⟩
section
variable {s t : Str} {A B : Prop}
theorem sT (e : s = t) (h : A) : if decide (V.str s = V.str t) = true then A else B := by rw [decide_eq_true (by rw [e])]; exact iteT h
theorem sF (e : s ≠ t) (h : B) : if decide (V.str s = V.str t) = true then A else B := by rw [decide_eq_false (fun z => e (V.str.inj z))]; exact iteF h
theorem nT (e : s ≠ t) (h : A) : if (!decide (V.str s = V.str t)) = true then A else B := by rw [decide_eq_false (fun z => e (V.str.inj z))]; exact iteT h
theorem nF (e : s = t) (h : B) : if (!decide (V.str s = V.str t)) = true then A else B := by rw [decide_eq_true (by rw [e])]; exact iteF h
end
theorem Same.upd {H H' : Hp} {p : Addr} {o : HO} (e : Same H H') (h : H p = none) : Same H (L2.upd H' p o) := fun b u q => by
  rw [upd_ne (ne_of_none q h)]
  exact e _ _ q
/-- isinstance(x, T) of a name and a built-in class -/
theorem vIsi {σ : L2.St} {H : Hp} {Q : VK} {i : Nat} {v : V} {U Tn : String} {b : Bool} (h : σ[i]? = some (some v)) (ty : TyX K H v (.type U)) (kb : kitB U Tn = some b) (q : Q (.bl b) H) :
    tCB (rIsi K) (tCons (tVar i) (tCons (tC (.ty Tn)) tNil)) σ H Q := ⟨_, h, v, .ty Tn, _, _, b, rfl, .ty Tn, ty, kit_ty kb, q⟩
theorem ty_tup {H : Hp} {a : Addr} {xs : List V} (h : SqT K H a xs) : TyX K H (.ref a) (.type "tuple") := by
  rcases h with (h | ⟨o, h⟩) | ⟨o, its, n, h, hc, _⟩
  · exact .base (.tup h)
  · exact .fTuple h
  · exact .kTuple h hc
theorem ty_lst {H : Hp} {a : Addr} {xs : List V} (h : SqL K H a xs) : TyX K H (.ref a) (.type "list") := by
  rcases h with (h | ⟨o, h⟩) | ⟨o, its, n, h, hc, _⟩
  · exact .base (.lst h)
  · exact .base (.frz h)
  · exact .kList h hc
theorem DtAll.append {K : PySem.W.Frag} {H : Hp} : ∀ {xs ys : List V} {ds es : List PyData}, DtAll K H xs ds → DtAll K H ys es → DtAll K H (xs ++ ys) (ds ++ es)
  | _, _, _, _, .nil, h => h
  | _, _, _, _, .cons a b, h => .cons a (DtAll.append b h)
/-- a list that grows is no tuple -/
theorem seqT_upd {K : PySem.W.Frag} {H : Hp} {D a : Addr} {vs ws zs : List V} (h : SqT K H a zs) (hD : H D = some (.lst vs)) : SqT K (upd H D (.lst ws)) a zs := by
  rcases h with (h | ⟨o, h⟩) | h
  · exact .inl (.inl (by rw [upd_ne (ne_of h hD (fun z => by cases z))]; exact h))
  · exact .inl (.inr ⟨o, by rw [upd_ne (ne_of h hD (fun z => by cases z))]; exact h⟩)
  · exact .inr h
theorem seqT_updK {K : PySem.W.Frag} {H : Hp} {D a : Addr} {kvs kvs' : List (Key × V)} {zs : List V} (h : SqT K H a zs) (hD : H D = some (.dK kvs)) : SqT K (upd H D (.dK kvs')) a zs := by
  rcases h with (h | ⟨o, h⟩) | h
  · exact .inl (.inl (by rw [upd_ne (ne_of h hD (fun z => by cases z))]; exact h))
  · exact .inl (.inr ⟨o, by rw [upd_ne (ne_of h hD (fun z => by cases z))]; exact h⟩)
  · exact .inr h
theorem valV_hd {k : Key} {v : V} {r : List (Key × V)} : valV ((k, v) :: r) k = some v := by simp [valV]
theorem valV_tl {k k' : Key} {v : V} {r : List (Key × V)} (h : k' ≠ k) : valV ((k', v) :: r) k = valV r k := by simp [valV, h]
theorem Pool.same {H H' : Hp} {l c : Addr} (P : Pool H l c) (e : Same H H') : Pool H' l c := by
  obtain ⟨ns, i, r, s, hl, hc, z⟩ := P
  exact ⟨ns, i, r, s, e _ _ hl, e _ _ hc, z⟩
theorem Ext.same {H H1 H2 : Hp} {l c : Addr} (x : Ext l c H H1) (e : Same H1 H2) : Ext l c H H2 := ⟨fun b o hb h => e _ _ (x.keep b o hb h), x.pool.same e⟩
/-- a new tuple at the end of a list of data -/
theorem snoc_data {K : PySem.W.Frag} {H : Hp} {D t : Addr} {o : HO} {vs : List V} {ds : List PyData} {d : PyData} (da : DtAll K H vs ds) (hD : H D = some (.lst vs)) (ht : H t = none) (dt : Dt K (upd H t o) (.ref t) d) :
    (upd H t o) D = some (.lst vs) ∧ DtAll K (upd (upd H t o) D (.lst (vs ++ [.ref t]))) (vs ++ [.ref t]) (ds ++ [d]) := by
  have h1 : (upd H t o) D = some (.lst vs) := by rw [upd_ne (ne_of_none hD ht)]; exact hD
  refine ⟨h1, DtAll.mono (fun _ _ z => seqT_upd z h1) _ _ (DtAll.append (DtAll.mono (fun _ _ z => Same.seqT (same_new ht) z) _ _ da) (.cons dt .nil))⟩
theorem DtAll.ext {K : PySem.W.Frag} {H H' : Hp} {l c : Addr} {vs : List V} {ds : List PyData} (h : DtAll K H vs ds) (P : Pool H l c) (x : Ext l c H H') : DtAll K H' vs ds := DtAll.mono (fun _ _ z => x.seqT P z) _ _ h
theorem DtAll.same {K : PySem.W.Frag} {H H' : Hp} {vs : List V} {ds : List PyData} (h : DtAll K H vs ds) (x : Same H H') : DtAll K H' vs ds := DtAll.mono (fun _ _ z => Same.seqT x z) _ _ h
end PK
namespace PK
open PySem L2
/-! the pool -/
def enc (z : Int) : Int := if 0 ≤ z then 2 * z else -2 * z - 1
def spPool (K : PySem.W.Frag) : Sp := fun vs H Q _ => ∃ (a : Addr) (ns : List Int), vs = [.ref a] ∧ SqL K H a (ns.map V.int) ∧ ns.length ≤ 63 ∧
  ∀ (H' : Hp) (l c : Addr), Same H H' → H l = none → Pool H' l c → Q (.ref l) H'
section
variable {P : Program} {w : World} {K : PySem.W.Frag} {mg : Str → Option Value} {base : Heap}
abbrev s_law_pool : Stmt := topS 106
theorem sc_law_pool : FnScope ["script", "cell"] ["script"] (defScope s_law_pool) := ⟨rfl, rfl, rfl, by decide +kernel, rfl, by decide +kernel, by decide +kernel⟩
-- slots: 0:script 1:cell(comp)
theorem ok_pool {f : Addr} {fd : FuncData} (F : Fun K "_law_pool" "_law_pool" s_law_pool f fd) :
    FnOk P w K mg base CX0 1 f fd ["script"] (spPool K) := by
  refine F.ok sc_law_pool (fun vs H Q E h => ?_) (fun cdv A outer s H vs Q E hr h => ?_)
  · obtain ⟨a, ns, rfl, _⟩ := h
    rfl
  obtain ⟨a, ns, rfl, hS, hlen, q⟩ := h
  refine ⟨_, (pss_one (ps_ret (pe_lst (pa_cons (pe_lc (own := [("cell", 1)]) (g := (gName 1)) (tt := tYes) (by rfl) sc_law_pool.nd (pi_list (pv 0)) (blkOk_by (N := ["script", "cell"]) (sc := defScope s_law_pool) (by decide +kernel)) (fun _ _ _ _ _ => (pg_name (i := 1) sc_law_pool.nd rfl (Or.inl rfl))) (fun _ _ _ _ _ => pts_nil) (fun _ _ _ _ _ => (pe_ifExp (pt_cmpR op_ge (pv 1) pe_int (nomark _)) (pe_op op_mul pe_int (pv 1)) (pe_op op_sub (pe_op op_mul (pe_un un_neg pe_int) (pv 1)) pe_int)))) (pa_cons pe_int (pa_cons pe_int (pa_cons pe_int pa_nil))))))), ?_⟩
  refine ⟨_, rfl, a, rfl, ⟨_, hS⟩, fun D hD => lc_list (K := K) (a := a) (xs := ns.map V.int) (fun i H' => i ≤ ns.length ∧ Same H H' ∧ H' D = some (.lst (((ns.take i).map enc).map V.int))) ⟨Nat.zero_le _, same_new hD, upd_same⟩ (fun i H' _ h => h.2.1.seq hS) ?_ ?_⟩
  · rintro i x H' hi ⟨_, sm, hd⟩
    have hi2 : i < ns.length := by
      have := (List.getElem?_eq_some_iff.mp hi).1
      rw [List.length_map] at this
      exact this
    rw [List.getElem?_map, List.getElem?_eq_getElem hi2] at hi
    cases hi
    have fin : ∀ z : Int, z = enc ns[i] → upd H' D (.lst (((ns.take i).map enc).map V.int ++ [V.int z])) D = some (.lst (((ns.take (i + 1)).map enc).map V.int)) := fun z e => by
      rw [upd_same, List.take_add_one, List.getElem?_eq_getElem hi2, List.map_append, List.map_append, e]
      rfl
    have ll : (((ns.take i).map enc).map V.int).length < sizeLine := by
      rw [List.length_map, List.length_map, List.length_take]
      exact smallL (by omega)
    refine ⟨rfl, yes_ ⟨_, rfl, _, _, rfl, rfl, _, rfl, ite2 (fun e => ?_) (fun e => ?_)⟩⟩
    · have e' : ns[i] ≥ 0 := of_decide_eq_true e
      exact ⟨_, rfl, _, _, rfl, rfl, .inl ⟨by decide, by decide⟩, _, hd, ll, hi2, Same.upd sm hD, fin _ (by unfold enc; rw [if_pos e'])⟩
    · have e' : ¬ ns[i] ≥ 0 := fun z => e (decide_eq_true z)
      exact ⟨_, rfl, _, rfl, _, _, rfl, rfl, .inl ⟨by decide, by decide⟩, _, _, rfl, rfl, _, hd, ll, hi2, Same.upd sm hD, fin _ (by unfold enc; rw [if_neg (by omega)])⟩
  · rintro H' ⟨_, sm, hd⟩
    rw [List.length_map, List.take_of_length_le (Nat.le_refl _)] at hd
    refine ⟨small (by show 4 ≤ _; decide), fun p hp => ?_⟩
    refine q _ p D (Same.upd sm (sm.free hp)) (sm.free hp) ⟨ns.map enc, 0, 0, 17, upd_same, by rw [upd_ne (ne_of_none hd hp)]; exact hd, ne_of_none hd hp, fun n hn => ?_, by decide, by decide, by decide, by decide, False.elim⟩
    obtain ⟨z, _, rfl⟩ := List.mem_map.mp hn
    unfold enc
    split <;> omega
end
end PK
namespace PK
open PySem L2
theorem DtAll.lenD {K : PySem.W.Frag} {H : Hp} : ∀ {xs : List V} {ds : List PyData}, DtAll K H xs ds → xs.length = ds.length
  | _, _, .nil => rfl
  | _, _, .cons _ t => by rw [List.length_cons, List.length_cons, DtAll.lenD t]
theorem DtAll.getX {K : PySem.W.Frag} {H : Hp} : ∀ {xs : List V} {ds : List PyData} {i : Nat} {x : V}, DtAll K H xs ds → xs[i]? = some x → ∃ d, ds[i]? = some d ∧ Dt K H x d
  | _, _, _, _, .nil, e => by simp at e
  | _, _, 0, _, .cons h _, e => by simp at e; subst e; exact ⟨_, rfl, h⟩
  | _, _, i + 1, _, .cons _ t, e => by
    obtain ⟨d, h1, h2⟩ := DtAll.getX (i := i) t (by simpa using e)
    exact ⟨d, by simpa using h1, h2⟩
theorem DtAll.getD {K : PySem.W.Frag} {H : Hp} : ∀ {xs : List V} {ds : List PyData} {i : Nat} {d : PyData}, DtAll K H xs ds → ds[i]? = some d → ∃ x, xs[i]? = some x ∧ Dt K H x d
  | _, _, _, _, .nil, e => by simp at e
  | _, _, 0, _, .cons h _, e => by simp at e; subst e; exact ⟨_, rfl, h⟩
  | _, _, i + 1, _, .cons _ t, e => by
    obtain ⟨d, h1, h2⟩ := DtAll.getD (i := i) t (by simpa using e)
    exact ⟨d, by simpa using h1, h2⟩
theorem DtAll.splitR {K : PySem.W.Frag} {H : Hp} : ∀ {xs : List V} {ds es : List PyData}, DtAll K H xs (ds ++ es) → ∃ ys zs, xs = ys ++ zs ∧ DtAll K H ys ds ∧ DtAll K H zs es
  | xs, [], es, h => ⟨[], xs, rfl, .nil, h⟩
  | _, d :: ds, es, h => by
    cases h with
    | cons h t =>
      obtain ⟨ys, zs, rfl, h1, h2⟩ := DtAll.splitR (ds := ds) t
      exact ⟨_ :: ys, zs, rfl, .cons h h1, h2⟩
theorem DtAll.ints {K : PySem.W.Frag} {H : Hp} : ∀ ns : List Int, DtAll K H (ns.map V.int) (ns.map PyData.int)
  | [] => .nil
  | n :: r => .cons (.int n) (DtAll.ints r)
theorem DtAll.intsE {K : PySem.W.Frag} {H : Hp} : ∀ {xs : List V} {ns : List Int}, DtAll K H xs (ns.map PyData.int) → xs = ns.map V.int
  | _, [], h => by cases h; rfl
  | _, n :: r, h => by
    cases h with
    | cons h t => rw [h.i, DtAll.intsE t]; rfl
theorem DtAll.upd {K : PySem.W.Frag} {H : Hp} {D : Addr} {vs us xs : List V} {ds : List PyData} (h : DtAll K H xs ds) (hD : H D = some (.lst vs)) : DtAll K (L2.upd H D (.lst us)) xs ds := DtAll.mono (fun _ _ z => seqT_upd z hD) _ _ h
theorem Dt.updL {K : PySem.W.Frag} {H : Hp} {D : Addr} {vs us : List V} {x : V} {d : PyData} (h : Dt K H x d) (hD : H D = some (.lst vs)) : Dt K (L2.upd H D (.lst us)) x d := Dt.mono (fun _ _ z => seqT_upd z hD) _ _ h
section
variable {K : PySem.W.Frag} {It : It} {n : Nat} {G : Hp → Prop} {Y : Nat → Hp → V → Hp → Prop}
/-- a comprehension of data, all else kept -/
theorem lcS (wk : Walk It n G Y) {g : TG} {te : TE} {vs : List Nat} {σ : L2.St} {H1 : Hp} {D : Addr} {Qd : Hp → Prop} (hD : H1 D = none) (hn : n ≤ 10000000) (Jv : List PyData → Prop) (j0 : Jv []) (hG : ∀ H', Same H1 H' → G H')
    (hs : ∀ i x H H' ds (R : V → Hp → Prop), i < n → Same H1 H → Y i H x H' → Jv ds → ds.length = i → (∀ d y H4, Same H H4 → Dt K H4 y d → Jv (ds ++ [d]) → R y H4) → g x (wipe σ vs) H' fun σ2 H2 => wipe σ2 vs = wipe σ vs ∧ te σ2 H2 R)
    (hd : ∀ H' ws ds, Same H1 H' → H' D = some (.lst ws) → DtAll K H' ws ds → ds.length = n → Jv ds → Qd H') :
    ∃ W : Nat → Nat → Hp → Prop, (∃ m, W 0 m (upd H1 D (.lst []))) ∧ ∀ i m H, W i m H →
      (It.stop i H ∧ Qd H) ∨ (It.go i H ∧ ∃ Nx : Hp → Prop, (∀ H', Nx H' → ∃ m', m' < m ∧ W (i + 1) m' H') ∧ ∀ x H', It.yld i H x H' → g x (wipe σ vs) H' fun σ2 H2 => wipe σ2 vs = wipe σ vs ∧ tYes σ2 H2 fun b H3 =>
        if b = true then te σ2 H3 fun y H4 => ∃ acc, H4 D = some (.lst acc) ∧ acc.length < sizeLine ∧ Nx (upd H4 D (.lst (acc ++ [y]))) else Nx H3) := by
  refine lc_it wk (fun i H' => ∃ (ws : List V) (ds : List PyData), Same H1 H' ∧ H' D = some (.lst ws) ∧ DtAll K H' ws ds ∧ ds.length = i ∧ Jv ds) ⟨[], [], same_new hD, upd_same, .nil, rfl, j0⟩ (fun i H' _ h => ?_) (fun i x H H' hi h y => ?_) (fun H' h => ?_)
  · obtain ⟨_, _, s, _⟩ := h
    exact hG _ s
  · obtain ⟨ws, ds, s, hw, da, len, j⟩ := h
    refine hs i x H H' ds (fun y H4 => ∃ acc, H4 D = some (.lst acc) ∧ acc.length < sizeLine ∧ ∃ (ws : List V) (ds : List PyData), Same H1 (upd H4 D (.lst (acc ++ [y]))) ∧ (upd H4 D (.lst (acc ++ [y]))) D = some (.lst ws) ∧ DtAll K (upd H4 D (.lst (acc ++ [y]))) ws ds ∧ ds.length = i + 1 ∧ Jv ds) hi s y j len fun d y H4 s4 dy j4 => ?_
    have hw4 := s4 _ _ hw
    refine ⟨ws, hw4, smallL (by rw [da.lenD, len]; omega), ws ++ [y], ds ++ [d], Same.upd (s.trans s4) hD, upd_same, ?_, by rw [List.length_append, len]; rfl, j4⟩
    exact ((da.same s4).append (.cons dy .nil)).upd hw4
  · obtain ⟨ws, ds, s, hw, da, len, j⟩ := h
    exact hd _ ws ds s hw da len j
/-- a comprehension of data that draws from the pool -/
theorem lcX (wk : Walk It n G Y) {g : TG} {te : TE} {vs : List Nat} {σ : L2.St} {H1 : Hp} {D l c : Addr} {Qd : Hp → Prop} (P : Pool H1 l c) (hD : H1 D = none) (hn : n ≤ 10000000) (Jv : List PyData → Prop) (j0 : Jv []) (hG : ∀ H', Ext l c H1 H' → G H')
    (hs : ∀ i x H H' ds (R : V → Hp → Prop), i < n → Ext l c H1 H → Y i H x H' → Jv ds → ds.length = i → (∀ d y H4, Ext l c H H4 → Dt K H4 y d → Jv (ds ++ [d]) → R y H4) → g x (wipe σ vs) H' fun σ2 H2 => wipe σ2 vs = wipe σ vs ∧ te σ2 H2 R)
    (hd : ∀ H' ws ds, Ext l c H1 H' → H' D = some (.lst ws) → DtAll K H' ws ds → ds.length = n → Jv ds → Qd H') :
    ∃ W : Nat → Nat → Hp → Prop, (∃ m, W 0 m (upd H1 D (.lst []))) ∧ ∀ i m H, W i m H →
      (It.stop i H ∧ Qd H) ∨ (It.go i H ∧ ∃ Nx : Hp → Prop, (∀ H', Nx H' → ∃ m', m' < m ∧ W (i + 1) m' H') ∧ ∀ x H', It.yld i H x H' → g x (wipe σ vs) H' fun σ2 H2 => wipe σ2 vs = wipe σ vs ∧ tYes σ2 H2 fun b H3 =>
        if b = true then te σ2 H3 fun y H4 => ∃ acc, H4 D = some (.lst acc) ∧ acc.length < sizeLine ∧ Nx (upd H4 D (.lst (acc ++ [y]))) else Nx H3) := by
  have nD := (P.ne hD).1
  refine lc_it wk (fun i H' => ∃ (ws : List V) (ds : List PyData), Ext l c H1 H' ∧ H' D = some (.lst ws) ∧ DtAll K H' ws ds ∧ ds.length = i ∧ Jv ds) ⟨[], [], (Ext.refl P).new P hD, upd_same, .nil, rfl, j0⟩ (fun i H' _ h => ?_) (fun i x H H' hi h y => ?_) (fun H' h => ?_)
  · obtain ⟨_, _, s, _⟩ := h
    exact hG _ s
  · obtain ⟨ws, ds, s, hw, da, len, j⟩ := h
    refine hs i x H H' ds (fun y H4 => ∃ acc, H4 D = some (.lst acc) ∧ acc.length < sizeLine ∧ ∃ (ws : List V) (ds : List PyData), Ext l c H1 (upd H4 D (.lst (acc ++ [y]))) ∧ (upd H4 D (.lst (acc ++ [y]))) D = some (.lst ws) ∧ DtAll K (upd H4 D (.lst (acc ++ [y]))) ws ds ∧ ds.length = i + 1 ∧ Jv ds) hi s y j len fun d y H4 s4 dy j4 => ?_
    have hw4 := s4.keep _ _ nD hw
    refine ⟨ws, hw4, smallL (by rw [da.lenD, len]; omega), ws ++ [y], ds ++ [d], (s.trans s4).upd P hD, upd_same, ?_, by rw [List.length_append, len]; rfl, j4⟩
    exact ((da.ext s.pool s4).append (.cons dy .nil)).upd hw4
  · obtain ⟨ws, ds, s, hw, da, len, j⟩ := h
    exact hd _ ws ds s hw da len j
end
end PK
namespace PK
open PySem L2
/-! terms, with the forms of results -/
inductive Fm where | get | set | plus | minus
deriving DecidableEq
def Fm.s : Fm → Str
  | .get => "get" | .set => "set" | .plus => "plus" | .minus => "minus"
inductive Tm where
  | int (n : Int)
  | name (s : Str)
  | addr (n : Int)
  | var (s : Str)
  | node (c : Str) (ts : List Tm)
  | map (es : List (Str × Tm))
  | form (f : Fm) (ts : List Tm)
mutual
def Tm.d : Tm → PyData
  | .int n => .tuple [.str "int", .int n]
  | .name s => .tuple [.str "name", .str s]
  | .addr n => .tuple [.str "addr", .int n]
  | .var s => .tuple [.str "meta", .str s]
  | .node c ts => .tuple [.str "node", .str c, .tuple (Tm.ds ts)]
  | .map es => .tuple [.str "map", .tuple (Tm.es es)]
  | .form f ts => .tuple (.str f.s :: Tm.ds ts)
def Tm.ds : List Tm → List PyData
  | [] => []
  | t :: r => t.d :: Tm.ds r
def Tm.es : List (Str × Tm) → List PyData
  | [] => []
  | (w, t) :: r => .tuple [.str w, t.d] :: Tm.es r
end
theorem Tm.ds_map : ∀ ts : List Tm, Tm.ds ts = ts.map Tm.d
  | [] => by unfold Tm.ds; rfl
  | t :: r => by unfold Tm.ds; rw [Tm.ds_map r]; rfl
def Tm.ent (e : Str × Tm) : PyData := .tuple [.str e.1, e.2.d]
theorem Tm.es_map : ∀ es : List (Str × Tm), Tm.es es = es.map Tm.ent
  | [] => by unfold Tm.es; rfl
  | (w, t) :: r => by unfold Tm.es; rw [Tm.es_map r]; rfl
def Tm.kids : Tm → List Tm
  | .node _ ts => ts
  | .form _ ts => ts
  | .map es => es.map Prod.snd
  | _ => []
def Tm.hd : Tm → Str
  | .int _ => "int" | .name _ => "name" | .addr _ => "addr" | .var _ => "meta" | .node _ _ => "node" | .map _ => "map" | .form f _ => f.s
theorem Tm.kid_lt {t k : Tm} (h : k ∈ t.kids) : sizeOf k < sizeOf t := by
  cases t with
  | node c ts => have := List.sizeOf_lt_of_mem (as := ts) h; simp only [Tm.node.sizeOf_spec]; omega
  | form c ts => have := List.sizeOf_lt_of_mem (as := ts) h; simp only [Tm.form.sizeOf_spec]; omega
  | map es =>
    obtain ⟨e, he, rfl⟩ := List.mem_map.mp h
    have := List.sizeOf_lt_of_mem he
    have e2 : sizeOf e = 1 + sizeOf e.1 + sizeOf e.2 := by cases e; rfl
    simp only [Tm.map.sizeOf_spec]
    omega
  | int _ => cases h
  | name _ => cases h
  | addr _ => cases h
  | var _ => cases h
/-- induction over the direct parts -/
theorem Tm.ind {p : Tm → Prop} (h : ∀ t : Tm, (∀ k ∈ t.kids, p k) → p t) (t : Tm) : p t := by
  have : ∀ n (t : Tm), sizeOf t ≤ n → p t := by
    intro n
    induction n with
    | zero => intro t ht; cases t <;> simp at ht
    | succ n ih => exact fun t ht => h t fun k hk => ih k (by have := Tm.kid_lt hk; omega)
  exact this _ t (Nat.le_refl _)
def Tm.size (t : Tm) : Nat := 1 + (t.kids.attach.map fun k => k.1.size).sum
termination_by sizeOf t
decreasing_by exact Tm.kid_lt k.2
theorem Tm.size_eq (t : Tm) : t.size = 1 + (t.kids.map Tm.size).sum := by
  rw [Tm.size, List.attach_map_val (f := Tm.size)]
/-- the first data of the tuple of a term -/
theorem Tm.d_hd (t : Tm) : ∃ r, t.d = .tuple (.str t.hd :: r) := by
  cases t <;> exact ⟨_, by unfold Tm.d; rfl⟩
def longI (n : Int) : Bool := decide (10 ^ 15 ≤ (if n < 0 then -n else n))
def Tm.long : Tm → Bool
  | .int n => longI n
  | _ => false
/-- too deep, or a long integer, in a term at a depth -/
def Tm.bad (t : Tm) (d : Nat) : Bool := decide (100 < d) || t.long || t.kids.attach.any fun k => k.1.bad (d + 1)
termination_by sizeOf t
decreasing_by exact Tm.kid_lt k.2
theorem any_attach {α : Type} (l : List α) (p : α → Bool) : (l.attach.any fun k => p k.1) = l.any p := by
  exact (List.any_map (l := l.attach) (f := Subtype.val) (p := p)).symm.trans (by rw [List.attach_map_subtype_val])
theorem Tm.bad_eq (t : Tm) (d : Nat) : t.bad d = (decide (100 < d) || t.long || t.kids.any fun k => k.bad (d + 1)) := by
  rw [Tm.bad, any_attach t.kids (fun k => k.bad (d + 1))]
/-- the kids as data -/
theorem Tm.dt_parts {K : PySem.W.Frag} {H : Hp} {v : V} {t : Tm} (h : Dt K H v t.d) : ∃ (a : Addr) (r : List V), v = .ref a ∧ SqT K H a (.str t.hd :: r) := by
  obtain ⟨r, e⟩ := t.d_hd
  rw [e] at h
  obtain ⟨a, xs, rfl, s, da⟩ := Dt.tn h
  cases da with
  | cons h1 r1 => rw [h1.s] at s; exact ⟨a, _, rfl, s⟩
structure TxtT (K : PySem.W.Frag) (mg : Str → Option Value) (aF : Addr) : Prop extends Txt K mg where
  g_FO : mg "FORMS_terms" = some (.ref aF)
  forms : ∀ H, SqT K H aF [.str "get", .str "set", .str "plus", .str "minus"]
def spKids (K : PySem.W.Frag) : Sp := fun vs H Q _ => ∃ (v : V) (t : Tm), vs = [v] ∧ Dt K H v t.d ∧ t.kids.length ≤ 10000000 ∧
  ∀ (H' : Hp) (p : Addr) (ws : List V), Same H H' → SqT K H' p ws → DtAll K H' ws (t.kids.map Tm.d) → Q (.ref p) H'
theorem Fm.ne_node (f : Fm) : f.s ≠ "node" := by cases f <;> decide +kernel
theorem Fm.ne_map (f : Fm) : f.s ≠ "map" := by cases f <;> decide +kernel
theorem Fm.inF (f : Fm) : inV (.str f.s) [V.str "get", V.str "set", V.str "plus", V.str "minus"] = true := by cases f <;> decide +kernel
section
variable {P : Program} {w : World} {K : PySem.W.Frag} {mg : Str → Option Value} {base : Heap} {aF : Addr}
abbrev s_children : Stmt := topS 9
theorem sc_children : FnScope ["term", "_", "entry"] ["term"] (defScope s_children) := ⟨rfl, rfl, rfl, by decide +kernel, rfl, by decide +kernel, by decide +kernel⟩
-- slots: 0:term 1:_(comp) 2:entry(comp)
theorem ok_kids {f : Addr} {fd : FuncData} (F : Fun K "children" "children" s_children f fd) (T : TxtT K mg aF) : FnOk P w K mg base CX0 1 f fd ["term"] (spKids K) := by
  refine F.ok sc_children (fun vs H Q E h => ?_) (fun cdv A outer s H vs Q E hr h => ?_)
  · obtain ⟨v, t, rfl, _⟩ := h
    rfl
  obtain ⟨v, t, rfl, hv, hn, q⟩ := h
  refine ⟨_, (pss_cons (ps_if (pt_cmpR op_eq (pe_ix ix_tup (pv 0) pe_int (fun _ _ => rfl)) pe_str (nomark _)) (pss_one (ps_ret (pe_ix ix_tup (pv 0) pe_int (fun _ _ => rfl)))) pss_nil)
    (pss_cons (ps_if (pt_cmpR op_eq (pe_ix ix_tup (pv 0) pe_int (fun _ _ => rfl)) pe_str (nomark _)) (pss_one (ps_ret (pe_callTy call_tuple_of (by rfl) T.z_tuple (by decide +kernel) (pa_cons (pe_lc (own := [("_", 1), ("entry", 2)]) (g := (gTup K 2 (gCons (gName 1) (gCons (gName 2) gNil)))) (tt := tYes) (by rfl) sc_children.nd (pi_tup (pe_ix ix_tup (pv 0) pe_int (fun _ _ => rfl))) (blkOk_by (N := ["term", "_", "entry"]) (sc := defScope s_children) (by decide +kernel)) (fun _ _ _ _ _ => (pg_tup (by rfl) (pgs_cons (pg_name (i := 1) sc_children.nd rfl (Or.inl rfl)) (pgs_cons (pg_name (i := 2) sc_children.nd rfl (Or.inl rfl)) pgs_nil)))) (fun _ _ _ _ _ => pts_nil) (fun _ _ _ _ _ => (pv 2))) pa_nil)))) pss_nil)
    (pss_cons (ps_if (pt_cmpR op_in_seq (pe_ix ix_tup (pv 0) pe_int (fun _ _ => rfl)) (pe_glob (v := .ref aF) rfl T.g_FO rfl) rfl) (pss_one (ps_ret (pe_slice sl_tup (pv 0) (po_some pe_int) po_none))) pss_nil)
    (pss_one (ps_ret (pe_tup pa_nil)))))), ?_⟩
  cases t with
  | node c ts =>
    unfold Tm.d at hv
    obtain ⟨a, x, y, z, rfl, hs, h1, h2, h3⟩ := Dt.t3 hv
    obtain rfl := h1.s
    obtain ⟨b, ys, rfl, hb, hys⟩ := Dt.tn h3
    refine vTx rfl hs rfl ⟨rfl, _, rfl, sT rfl (vTx rfl hs rfl ?_)⟩
    exact q H b ys (Same.refl H) hb (by rw [Tm.ds_map] at hys; exact hys)
  | map es =>
    unfold Tm.d at hv
    obtain ⟨a, x, y, rfl, hs, h1, h2⟩ := Dt.t2 hv
    obtain rfl := h1.s
    obtain ⟨b, ys, rfl, hb, hys⟩ := Dt.tn h2
    rw [Tm.es_map] at hys
    have ly : ys.length = es.length := by rw [hys.lenD, List.length_map]
    have hn' : es.length ≤ 10000000 := by rw [show (Tm.map es).kids = es.map Prod.snd from rfl, List.length_map] at hn; exact hn
    refine vTx rfl hs rfl ⟨rfl, _, rfl, sF (by decide +kernel) (vTx rfl hs rfl ⟨rfl, _, rfl, sT rfl ?_⟩)⟩
    refine vTx rfl hs rfl ⟨b, rfl, ⟨_, hb⟩, fun D hD => lcS (K := K) (walk_tup (xs := ys)) hD (by omega) (fun ds => ds = (es.take ds.length).map fun e => e.2.d) rfl (fun H' s => Same.seqT s hb) ?_ ?_⟩
    · rintro i x H1 H2 ds R hi s ⟨rfl, gx⟩ jd len r
      obtain ⟨e, ge, dx⟩ := DtAll.getX hys gx
      rw [List.getElem?_map] at ge
      cases e0 : es[i]? with
      | none => rw [e0] at ge; cases ge
      | some en =>
        rw [e0] at ge
        cases ge
        obtain ⟨a1, x1, y1, rfl, hs1, k1, k2⟩ := Dt.t2 (dx.same s)
        refine ⟨a1, _, rfl, hs1, rfl, _, _, rfl, _, _, rfl, rfl, rfl, _, rfl, r en.2.d y1 _ (Same.refl _) k2 ?_⟩
        rw [List.length_append, len, show i + [en.2.d].length = i + 1 from rfl, List.take_add_one, e0, List.map_append]
        rw [len] at jd
        rw [← jd]; rfl
    · rintro H' ws ds s hw da len jd
      rw [len, ly, List.take_length] at jd
      refine ⟨D, _, rfl, .inl ⟨SqL.of hw, fun p hp => ?_⟩⟩
      refine q _ p ws (Same.upd s ((Same.refl H).trans s |>.free hp)) (SqT.of upd_same) ?_
      rw [jd] at da
      rw [show (Tm.map es).kids.map Tm.d = es.map fun e => e.2.d from by unfold Tm.kids; rw [List.map_map]; rfl]
      exact da.same (same_new hp)
  | form g ts =>
    unfold Tm.d at hv
    obtain ⟨a, xs, rfl, hs, da⟩ := Dt.tn hv
    cases da with
    | cons h1 dr =>
    obtain rfl := h1.s
    rename_i vs1
    refine vTx rfl hs (atI_nat (j := 0) rfl) ⟨rfl, _, rfl, sF g.ne_node (vTx rfl hs (atI_nat (j := 0) rfl) ⟨rfl, _, rfl, sF g.ne_map (vTx (v := .str g.s) rfl hs (atI_nat (j := 0) rfl) ⟨aF, _, rfl, .inr (T.forms H), rfl, rfl, _, rfl, ?_⟩)⟩)⟩
    rw [if_neg Bool.false_ne_true, g.inF]
    refine iteT ⟨_, rfl, _, rfl, a, _, rfl, hs, fun z => ?_, fun p hp => ?_⟩
    · have e := z.1
      revert e
      show (HT.sIx (vs1.length + 1) 0 (some 1) = 0) → False
      unfold HT.sIx
      intro e
      simp at e
    · have ec : cutV (V.str g.s :: vs1) (some 1) none = vs1 := by
        unfold cutV HT.sIx
        simp
      rw [ec]
      refine q _ p vs1 (same_new hp) (SqT.of upd_same) ?_
      rw [Tm.ds_map] at dr
      exact dr.same (same_new hp)
  | int n =>
    unfold Tm.d at hv
    obtain ⟨a, x, y, rfl, hs, h1, h2⟩ := Dt.t2 hv
    obtain rfl := h1.s
    refine vTx rfl hs rfl ⟨rfl, _, rfl, sF (by decide +kernel) (vTx rfl hs rfl ⟨rfl, _, rfl, sF (by decide +kernel) (vTx (v := .str "int") rfl hs rfl ⟨aF, _, rfl, .inr (T.forms H), rfl, rfl, _, rfl, ?_⟩)⟩)⟩
    rw [if_neg Bool.false_ne_true, show inV (.str "int") [V.str "get", V.str "set", V.str "plus", V.str "minus"] = false by decide +kernel]
    exact iteF ⟨Nat.zero_le _, fun p hp => q _ p [] (same_new hp) (SqT.of upd_same) .nil⟩
  | name n =>
    unfold Tm.d at hv
    obtain ⟨a, x, y, rfl, hs, h1, h2⟩ := Dt.t2 hv
    obtain rfl := h1.s
    refine vTx rfl hs rfl ⟨rfl, _, rfl, sF (by decide +kernel) (vTx rfl hs rfl ⟨rfl, _, rfl, sF (by decide +kernel) (vTx (v := .str "name") rfl hs rfl ⟨aF, _, rfl, .inr (T.forms H), rfl, rfl, _, rfl, ?_⟩)⟩)⟩
    rw [if_neg Bool.false_ne_true, show inV (.str "name") [V.str "get", V.str "set", V.str "plus", V.str "minus"] = false by decide +kernel]
    exact iteF ⟨Nat.zero_le _, fun p hp => q _ p [] (same_new hp) (SqT.of upd_same) .nil⟩
  | addr n =>
    unfold Tm.d at hv
    obtain ⟨a, x, y, rfl, hs, h1, h2⟩ := Dt.t2 hv
    obtain rfl := h1.s
    refine vTx rfl hs rfl ⟨rfl, _, rfl, sF (by decide +kernel) (vTx rfl hs rfl ⟨rfl, _, rfl, sF (by decide +kernel) (vTx (v := .str "addr") rfl hs rfl ⟨aF, _, rfl, .inr (T.forms H), rfl, rfl, _, rfl, ?_⟩)⟩)⟩
    rw [if_neg Bool.false_ne_true, show inV (.str "addr") [V.str "get", V.str "set", V.str "plus", V.str "minus"] = false by decide +kernel]
    exact iteF ⟨Nat.zero_le _, fun p hp => q _ p [] (same_new hp) (SqT.of upd_same) .nil⟩
  | var n =>
    unfold Tm.d at hv
    obtain ⟨a, x, y, rfl, hs, h1, h2⟩ := Dt.t2 hv
    obtain rfl := h1.s
    refine vTx rfl hs rfl ⟨rfl, _, rfl, sF (by decide +kernel) (vTx rfl hs rfl ⟨rfl, _, rfl, sF (by decide +kernel) (vTx (v := .str "meta") rfl hs rfl ⟨aF, _, rfl, .inr (T.forms H), rfl, rfl, _, rfl, ?_⟩)⟩)⟩
    rw [if_neg Bool.false_ne_true, show inV (.str "meta") [V.str "get", V.str "set", V.str "plus", V.str "minus"] = false by decide +kernel]
    exact iteF ⟨Nat.zero_le _, fun p hp => q _ p [] (same_new hp) (SqT.of upd_same) .nil⟩
end
end PK
namespace PK
open PySem L2
/-! rebuild -/
structure TxtZ (K : PySem.W.Frag) (mg : Str → Option Value) (aF : Addr) : Prop extends TxtT K mg aF where
  z_zip : mg "zip" = none
  z_reversed : mg "reversed" = none
  z_dict : mg "dict" = none
  z_sum : mg "sum" = none
def Tm.withKids : Tm → List Tm → Tm
  | .node c _, ks => .node c ks
  | .map es, ks => .map (List.zipWith (fun e k => (e.1, k)) es ks)
  | .form f _, ks => .form f ks
  | t, _ => t
def spRebuild (K : PySem.W.Frag) : Sp := fun vs H Q _ => ∃ (v : V) (t : Tm) (a : Addr) (ws : List V) (ks : List Tm), vs = [v, .ref a] ∧ Dt K H v t.d ∧ SqL K H a ws ∧ DtAll K H ws (ks.map Tm.d) ∧ ks.length = t.kids.length ∧ ks.length ≤ 10000000 ∧
  ∀ (H' : Hp) (v' : V), Same H H' → Dt K H' v' (t.withKids ks).d → Q v' H'
section
variable {P : Program} {w : World} {K : PySem.W.Frag} {mg : Str → Option Value} {base : Heap} {aF : Addr}
abbrev s_rebuild : Stmt := topS 10
theorem sc_rebuild : FnScope ["term", "parts", "part", "word", "_"] ["term", "parts"] (defScope s_rebuild) := ⟨rfl, rfl, rfl, by decide +kernel, rfl, by decide +kernel, by decide +kernel⟩
-- slots: 0:term 1:parts 2:part(comp) 3:word(comp) 4:_(comp)
theorem ok_rebuild {f : Addr} {fd : FuncData} (F : Fun K "rebuild" "rebuild" s_rebuild f fd) (T : TxtZ K mg aF) : FnOk P w K mg base CX0 1 f fd ["term", "parts"] (spRebuild K) := by
  refine F.ok sc_rebuild (fun vs H Q E h => ?_) (fun cdv A outer s H vs Q E hr h => ?_)
  · obtain ⟨v, t, a, ws, ks, rfl, _⟩ := h
    rfl
  obtain ⟨v, t, a, ws, ks, rfl, hv, hS, da, lk, hn, q⟩ := h
  refine ⟨_, (pss_cons (ps_if (pt_cmpR op_eq (pe_ix ix_tup (pv 0) pe_int (fun _ _ => rfl)) pe_str (nomark _)) (pss_one (ps_ret (pe_tup (pa_cons pe_str (pa_cons (pe_ix ix_tup (pv 0) pe_int (fun _ _ => rfl)) (pa_cons (pe_callTy call_tuple_of (by rfl) T.z_tuple (by decide +kernel) (pa_cons (pv 1) pa_nil)) pa_nil)))))) pss_nil)
    (pss_cons (ps_if (pt_cmpR op_eq (pe_ix ix_tup (pv 0) pe_int (fun _ _ => rfl)) pe_str (nomark _)) (pss_one (ps_ret (pe_tup (pa_cons pe_str (pa_cons (pe_callTy call_tuple_of (by rfl) T.z_tuple (by decide +kernel) (pa_cons (pe_lc (own := [("part", 2), ("word", 3), ("_", 4)]) (g := (gTup K 2 (gCons (gTup K 2 (gCons (gName 3) (gCons (gName 4) gNil))) (gCons (gName 2) gNil)))) (tt := tYes) (by rfl) sc_rebuild.nd (PKZ.pi_zipP (by rfl) T.z_zip (pa_cons (pe_ix ix_tup (pv 0) pe_int (fun _ _ => rfl)) (pa_cons (pv 1) pa_nil))) (blkOk_by (N := ["term", "parts", "part", "word", "_"]) (sc := defScope s_rebuild) (by decide +kernel)) (fun _ _ _ _ _ => (pg_tup (by rfl) (pgs_cons (pg_tup (by rfl) (pgs_cons (pg_name (i := 3) sc_rebuild.nd rfl (Or.inl rfl)) (pgs_cons (pg_name (i := 4) sc_rebuild.nd rfl (Or.inl rfl)) pgs_nil))) (pgs_cons (pg_name (i := 2) sc_rebuild.nd rfl (Or.inl rfl)) pgs_nil)))) (fun _ _ _ _ _ => pts_nil) (fun _ _ _ _ _ => (pe_tup (pa_cons (pv 3) (pa_cons (pv 2) pa_nil))))) pa_nil)) pa_nil))))) pss_nil)
    (pss_cons (ps_if (pt_cmpR op_in_seq (pe_ix ix_tup (pv 0) pe_int (fun _ _ => rfl)) (pe_glob (v := .ref aF) rfl T.g_FO rfl) rfl) (pss_one (ps_ret (pe_tup (pa_cons (pe_ix ix_tup (pv 0) pe_int (fun _ _ => rfl)) (StX.pa_star (pv 1) pa_nil))))) pss_nil)
    (pss_one (ps_ret (pv 0)))))), ?_⟩
  have lw : ws.length = ks.length := by rw [da.lenD, List.length_map]
  cases t with
  | node c ts =>
    unfold Tm.d at hv
    obtain ⟨b, x, y, z, rfl, hs, h1, h2, h3⟩ := Dt.t3 hv
    obtain rfl := h1.s
    refine vTx rfl hs rfl ⟨rfl, _, rfl, sT rfl (vTx rfl hs rfl ?_)⟩
    refine ⟨_, rfl, a, ws, rfl, .inl ⟨hS, fun p hp => ⟨small (by show 3 ≤ _; decide), fun p2 hp2 => ?_⟩⟩⟩
    refine q _ _ ((same_new hp).trans (same_new hp2)) ?_
    show Dt K _ _ (Tm.node c ks).d
    unfold Tm.d
    rw [Tm.ds_map]
    exact Dt.mk3 hp2 (.str "node") (h2.new hp) (.tup (SqT.of upd_same) (da.same (same_new hp)))
  | map es =>
    unfold Tm.d at hv
    obtain ⟨b, x, y, rfl, hs, h1, h2⟩ := Dt.t2 hv
    obtain rfl := h1.s
    obtain ⟨b2, ys, rfl, hb, hys⟩ := Dt.tn h2
    rw [Tm.es_map] at hys
    have ly : ys.length = es.length := by rw [hys.lenD, List.length_map]
    have lk' : ks.length = es.length := by rw [lk]; unfold Tm.kids; rw [List.length_map]
    refine vTx rfl hs rfl ⟨rfl, _, rfl, sF (by decide +kernel) (vTx rfl hs rfl ⟨rfl, _, rfl, sT rfl ?_⟩)⟩
    refine vTx rfl hs rfl ⟨_, rfl, .t, .l, b2, a, ys, ws, rfl, hb, hS, fun D hD => lcS (K := K) (PKZ.walk_zipP (n := ws.length) (by omega)) hD (by omega) (fun ds => ds = (List.zipWith (fun (e : Str × Tm) (k : Tm) => Tm.ent (e.1, k)) (es.take ds.length) (ks.take ds.length))) rfl (fun H' s => ⟨Same.seqT s hb, s.seq hS⟩) ?_ ?_⟩
    · rintro i x H1 H2 ds R hi s ⟨U, x1, y1, rfl, hU, rfl, g1, g2⟩ jd len r
      obtain ⟨e, ge, dx⟩ := DtAll.getX hys g1
      obtain ⟨d2, gd, dy⟩ := DtAll.getX da g2
      rw [List.getElem?_map] at ge gd
      cases e0 : es[i]? with
      | none => rw [e0] at ge; cases ge
      | some en =>
      cases k0 : ks[i]? with
      | none => rw [k0] at gd; cases gd
      | some kn =>
        rw [e0] at ge
        rw [k0] at gd
        cases ge
        cases gd
        unfold Tm.ent at dx
        obtain ⟨a1, u1, w1, rfl, hs1, j1, j2⟩ := Dt.t2 (dx.same s)
        obtain rfl := j1.s
        refine ⟨U, _, rfl, SqT.of upd_same, rfl, _, _, rfl, ⟨a1, _, rfl, Same.seqT (same_new hU) hs1, rfl, _, _, rfl, _, _, rfl, rfl, _, _, rfl, rfl, rfl, _, rfl, _, rfl, small (by show 2 ≤ _; decide), fun p hp => r (Tm.ent (en.1, kn)) _ _ ((same_new hU).trans (same_new hp)) ?_ ?_⟩⟩
        · unfold Tm.ent
          exact Dt.mk2 hp (.str _) ((dy.same s).new hU)
        · rw [List.length_append, len, show i + [Tm.ent (en.1, kn)].length = i + 1 from rfl, List.take_add_one, List.take_add_one, e0, k0]
          rw [len] at jd
          rw [List.zipWith_append (by rw [List.length_take, List.length_take]; omega), ← jd]; rfl
    · rintro H' vs ds s hw dz len jd
      rw [len, lw, List.take_length, lk', List.take_length] at jd
      refine ⟨D, _, rfl, .inl ⟨SqL.of hw, fun p hp => ⟨small (by show 2 ≤ _; decide), fun p2 hp2 => ?_⟩⟩⟩
      refine q _ _ ((s.trans (same_new hp)).trans (same_new hp2)) ?_
      show Dt K _ _ (Tm.map (List.zipWith (fun e k => (e.1, k)) es ks)).d
      unfold Tm.d
      rw [Tm.es_map, List.map_zipWith]
      rw [jd] at dz
      exact Dt.mk2 hp2 (.str "map") (.tup (SqT.of upd_same) (dz.same (same_new hp)))
  | form g ts =>
    unfold Tm.d at hv
    obtain ⟨b, xs, rfl, hs, db⟩ := Dt.tn hv
    cases db with
    | cons h1 dr =>
    obtain rfl := h1.s
    rename_i vs1
    refine vTx rfl hs (atI_nat (j := 0) rfl) ⟨rfl, _, rfl, sF g.ne_node (vTx rfl hs (atI_nat (j := 0) rfl) ⟨rfl, _, rfl, sF g.ne_map (vTx (v := .str g.s) rfl hs (atI_nat (j := 0) rfl) ⟨aF, _, rfl, .inr (T.forms H), rfl, rfl, _, rfl, ?_⟩)⟩)⟩
    rw [if_neg Bool.false_ne_true, g.inF]
    refine iteT (vTx (v := .str g.s) rfl hs (atI_nat (j := 0) rfl) ⟨_, rfl, a, ws, rfl, .inr hS, ?_⟩)
    refine ⟨small (by rw [List.length_cons, List.append_nil, lw]; omega), fun p hp => q _ _ (same_new hp) ?_⟩
    show Dt K _ _ (Tm.form g ks).d
    unfold Tm.d
    rw [Tm.ds_map, List.append_nil]
    exact .tup (SqT.of upd_same) (.cons (.str _) (da.same (same_new hp)))
  | int n =>
    have hv0 := hv
    unfold Tm.d at hv
    obtain ⟨b, x, y, rfl, hs, h1, h2⟩ := Dt.t2 hv
    obtain rfl := h1.s
    refine vTx rfl hs rfl ⟨rfl, _, rfl, sF (by decide +kernel) (vTx rfl hs rfl ⟨rfl, _, rfl, sF (by decide +kernel) (vTx (v := .str "int") rfl hs rfl ⟨aF, _, rfl, .inr (T.forms H), rfl, rfl, _, rfl, ?_⟩)⟩)⟩
    rw [if_neg Bool.false_ne_true, show inV (.str "int") [V.str "get", V.str "set", V.str "plus", V.str "minus"] = false by decide +kernel]
    exact iteF ⟨_, rfl, q _ _ (Same.refl H) hv0⟩
  | name n =>
    have hv0 := hv
    unfold Tm.d at hv
    obtain ⟨b, x, y, rfl, hs, h1, h2⟩ := Dt.t2 hv
    obtain rfl := h1.s
    refine vTx rfl hs rfl ⟨rfl, _, rfl, sF (by decide +kernel) (vTx rfl hs rfl ⟨rfl, _, rfl, sF (by decide +kernel) (vTx (v := .str "name") rfl hs rfl ⟨aF, _, rfl, .inr (T.forms H), rfl, rfl, _, rfl, ?_⟩)⟩)⟩
    rw [if_neg Bool.false_ne_true, show inV (.str "name") [V.str "get", V.str "set", V.str "plus", V.str "minus"] = false by decide +kernel]
    exact iteF ⟨_, rfl, q _ _ (Same.refl H) hv0⟩
  | addr n =>
    have hv0 := hv
    unfold Tm.d at hv
    obtain ⟨b, x, y, rfl, hs, h1, h2⟩ := Dt.t2 hv
    obtain rfl := h1.s
    refine vTx rfl hs rfl ⟨rfl, _, rfl, sF (by decide +kernel) (vTx rfl hs rfl ⟨rfl, _, rfl, sF (by decide +kernel) (vTx (v := .str "addr") rfl hs rfl ⟨aF, _, rfl, .inr (T.forms H), rfl, rfl, _, rfl, ?_⟩)⟩)⟩
    rw [if_neg Bool.false_ne_true, show inV (.str "addr") [V.str "get", V.str "set", V.str "plus", V.str "minus"] = false by decide +kernel]
    exact iteF ⟨_, rfl, q _ _ (Same.refl H) hv0⟩
  | var n =>
    have hv0 := hv
    unfold Tm.d at hv
    obtain ⟨b, x, y, rfl, hs, h1, h2⟩ := Dt.t2 hv
    obtain rfl := h1.s
    refine vTx rfl hs rfl ⟨rfl, _, rfl, sF (by decide +kernel) (vTx rfl hs rfl ⟨rfl, _, rfl, sF (by decide +kernel) (vTx (v := .str "meta") rfl hs rfl ⟨aF, _, rfl, .inr (T.forms H), rfl, rfl, _, rfl, ?_⟩)⟩)⟩
    rw [if_neg Bool.false_ne_true, show inV (.str "meta") [V.str "get", V.str "set", V.str "plus", V.str "minus"] = false by decide +kernel]
    exact iteF ⟨_, rfl, q _ _ (Same.refl H) hv0⟩
end
end PK
namespace PK
open PySem L2
/-! assembled -/
def HdD (h : Tm × Nat) : PyData := .tuple [h.1.d, .int (h.2 : Nat)]
/-- what a row of heads makes, from its end: the terms that stand then, the last one first -/
inductive PreL : List Tm → List (Tm × Nat) → Prop
  | nil : PreL [] []
  | leaf {p : Tm} {rest : List Tm} {hs : List (Tm × Nat)} : PreL rest hs → PreL (p :: rest) ((p, 0) :: hs)
  | node {p : Tm} {ts rest : List Tm} {hs : List (Tm × Nat)} {n : Nat} : PreL (ts ++ rest) hs → ts.length = n → 0 < n → n = p.kids.length → PreL (p.withKids ts :: rest) ((p, n) :: hs)
theorem PreL.one : ∀ {hs : List (Tm × Nat)} {a b : List Tm}, PreL a hs → PreL b hs → a = b
  | [], _, _, .nil, .nil => rfl
  | (p, 0) :: hs, _, _, .leaf h, .leaf h' => by rw [PreL.one h h']
  | (p, 0) :: hs, _, _, .node _ _ h0 _, _ => absurd h0 (Nat.lt_irrefl _)
  | (p, 0) :: hs, _, _, _, .node _ _ h0 _ => absurd h0 (Nat.lt_irrefl _)
  | (p, n + 1) :: hs, _, _, .node h l _ _, .node h' l' _ _ => by
    obtain ⟨e1, e2⟩ := List.append_inj (PreL.one h h') (l.trans l'.symm)
    rw [e1, e2]
theorem PreL.len_le : ∀ {hs : List (Tm × Nat)} {a : List Tm}, PreL a hs → a.length ≤ hs.length
  | _, _, .nil => Nat.le_refl _
  | _, _, .leaf h => by rw [List.length_cons, List.length_cons]; have := h.len_le; omega
  | _, _, .node h l h0 _ => by rw [List.length_cons, List.length_cons]; have := h.len_le; rw [List.length_append] at this; omega
theorem PreL.drop : ∀ {hs : List (Tm × Nat)} {a : List Tm} (k : Nat), PreL a hs → ∃ b, PreL b (hs.drop k)
  | hs, a, 0, h => ⟨a, h⟩
  | _, _, k + 1, .nil => ⟨[], .nil⟩
  | _, _, k + 1, .leaf h => h.drop k
  | _, _, k + 1, .node h _ _ _ => h.drop k
def spAsm (K : PySem.W.Frag) : Sp := fun vs H Q _ => ∃ (a : Addr) (ws : List V) (hs : List (Tm × Nat)) (t : Tm), vs = [.ref a] ∧ SqL K H a ws ∧ DtAll K H ws (hs.map HdD) ∧ PreL [t] hs ∧ hs.length ≤ 1000000 ∧
  ∀ (H' : Hp) (v : V), Same H H' → Dt K H' v t.d → Q v H'
theorem DtAll.rev {K : PySem.W.Frag} {H : Hp} : ∀ {xs : List V} {ds : List PyData}, DtAll K H xs ds → DtAll K H xs.reverse ds.reverse
  | _, _, .nil => .nil
  | _, _, .cons h t => by
    rw [List.reverse_cons, List.reverse_cons]
    exact t.rev.append (.cons h .nil)
section
variable {P : Program} {w : World} {K : PySem.W.Frag} {mg : Str → Option Value} {base : Heap} {aF : Addr}
abbrev s_assembled : Stmt := topS 11
theorem sc_assembled : FnScope ["heads", "made", "part", "many", "parts"] ["heads"] (defScope s_assembled) := ⟨rfl, rfl, rfl, by decide +kernel, rfl, by decide +kernel, by decide +kernel⟩
-- slots: 0:heads 1:made 2:part 3:many 4:parts
theorem ok_asm {f : Addr} {fd : FuncData} (F : Fun K "assembled" "assembled" s_assembled f fd) (T : TxtZ K mg aF) (C_rebuild : C8.Cal P w K mg base 1 "rebuild" (spRebuild K) []) : FnOk P w K mg base CX0 2 f fd ["heads"] (spAsm K) := by
  refine F.ok sc_assembled (fun vs H Q E h => ?_) (fun cdv A outer s H vs Q E hr h => ?_)
  · obtain ⟨a, ws, hs, t, rfl, _⟩ := h
    rfl
  obtain ⟨a, ws, hs, t, rfl, hS, da, hp, hn, q⟩ := h
  refine ⟨_, (pss_cons (ps_set (i := 1) sc_assembled.nd rfl (Or.inl rfl) (pe_lst pa_nil))
    (pss_cons (ps_for PassesOwn.never rfl (RT.pi_revA (by rfl) T.z_reversed (pv 0)) (pg_tup (by rfl) (pgs_cons (pg_name (i := 2) sc_assembled.nd rfl (Or.inl rfl)) (pgs_cons (pg_name (i := 3) sc_assembled.nd rfl (Or.inl rfl)) pgs_nil))) (pss_one (ps_if (pt_truth (pv 3) (by intro _; rfl)) (pss_cons (ps_set (i := 4) sc_assembled.nd rfl (Or.inl rfl) (pe_revL (pe_slice sl_list (pv 1) (po_some (pe_un un_neg (pv 3))) po_none)))
    (pss_cons (L2.PKR.ps_delTail (pv 1) (pe_un un_neg (pv 3)))
    (pss_one (ps_expr (pe_bm PySem.F.plainAttrs_list PySem.F.slot_list_append PySem.F.type_list_append mt_append (pv 1) (pa_cons (C8.pe_c C_rebuild hr (by decide) rfl (pa_cons (pv 2) (pa_cons (pv 4) pa_nil))) pa_nil)))))) (pss_one (ps_expr (pe_bm PySem.F.plainAttrs_list PySem.F.slot_list_append PySem.F.type_list_append mt_append (pv 1) (pa_cons (pv 2) pa_nil)))))))
    (pss_one (ps_ret (pe_ix ix_list (pv 1) pe_int (fun _ _ => rfl)))))), ?_⟩
  have lw : ws.length = hs.length := by rw [da.lenD, List.length_map]
  refine ⟨Nat.zero_le _, fun m hm => ?_⟩
  refine ⟨_, rfl, a, ws, rfl, .inl ⟨Same.seq (same_new hm) hS, for_it walk_rev (fun i σ H' => ∃ (st : List Tm) (mv : List V) (o1 o2 o3 : Option V), σ = [some (.ref a), some (.ref m), o1, o2, o3] ∧ Same H H' ∧ PreL st (hs.drop (hs.length - i)) ∧ H' m = some (.lst mv) ∧ DtAll K H' mv (st.reverse.map Tm.d)) ?_ ?_ ?_ ?_⟩⟩
  · exact ⟨[], [], _, _, _, rfl, same_new hm, by rw [Nat.sub_zero, List.drop_length]; exact .nil, upd_same, .nil⟩
  · rintro i σ H' hi ⟨st, mv, o1, o2, o3, rfl, s, _⟩
    exact s.seq hS
  · rintro i x σ H' H' hi ⟨st, mv, o1, o2, o3, rfl, s, pr, hmv, dm⟩ ⟨rfl, gx⟩
    obtain ⟨d, gd, dx⟩ := DtAll.getX da gx
    rw [List.getElem?_map] at gd
    have ei : ws.length - 1 - i = hs.length - (i + 1) := by omega
    rw [ei] at gd
    cases e0 : hs[hs.length - (i + 1)]? with
    | none => rw [e0] at gd; cases gd
    | some hd =>
    rw [e0] at gd
    cases gd
    obtain ⟨p, n⟩ := hd
    unfold HdD at dx
    obtain ⟨a1, u1, w1, rfl, hs1, j1, j2⟩ := Dt.t2 (dx.same s)
    obtain rfl := j2.i
    obtain ⟨st2, pr2⟩ := hp.drop (hs.length - (i + 1))
    have ed : hs.drop (hs.length - (i + 1)) = (p, n) :: hs.drop (hs.length - i) := by
      have := List.getElem?_eq_some_iff.mp e0
      obtain ⟨hlt, hget⟩ := this
      rw [List.drop_eq_getElem_cons hlt, hget, show hs.length - (i + 1) + 1 = hs.length - i by omega]
    have lmv : mv.length = st.length := by rw [dm.lenD, List.length_map, List.length_reverse]
    have lst := pr.len_le
    rw [List.length_drop] at lst
    refine ⟨a1, _, rfl, hs1, rfl, _, _, rfl, _, _, rfl, rfl, ⟨_, rfl, (n : Int) != 0, rfl, ?_⟩⟩
    rw [ed] at pr2
    cases pr2 with
    | leaf h =>
      refine iteF ⟨_, rfl, .inl ⟨rfl, _, SqL.of hmv⟩, _, rfl, m, mv, _, rfl, rfl, hmv, smallL (by omega), ?_⟩
      obtain rfl := PreL.one h pr
      refine ⟨_, mv ++ [u1], _, _, _, rfl, Same.upd s hm, by rw [ed]; exact .leaf h, upd_same, ?_⟩
      rw [List.reverse_cons, List.map_append]
      exact (dm.append (.cons j1 .nil)).upd hmv
    | node h l h0 lk =>
      rename_i ts rest
      obtain rfl := PreL.one h pr
      rw [List.length_append] at lmv lst
      have en0 : ((n : Int) != 0) = true := by
        rw [bne_iff_ne]; omega
      rw [en0]
      rw [List.reverse_append, List.map_append] at dm
      obtain ⟨y1, y2, rfl, dy1, dy2⟩ := DtAll.splitR dm
      have ly2 : y2.length = n := by rw [dy2.lenD, List.length_map, List.length_reverse]; exact l
      have ecut : cutV (y1 ++ y2) (some (-(n : Int))) none = y2 := by
        unfold cutV
        have : HT.sIx (y1 ++ y2).length 0 (some (-(n : Int))) = y1.length := by
          show (if (-(n : Int)) < 0 then (-(n : Int) + ((y1 ++ y2).length : Int)).toNat else min (-(n : Int)).toNat (y1 ++ y2).length) = _
          rw [if_pos (by omega), List.length_append]
          omega
        rw [this, HT.sIx_none, List.drop_left, List.length_append, Nat.add_sub_cancel_left, List.take_length]
      refine iteT ⟨_, rfl, _, rfl, n, rfl, _, rfl, m, _, rfl, SqL.of hmv, fun p1 hp1 => ⟨p1, _, rfl, SqL.of upd_same, fun p2 hp2 => ?_⟩⟩
      rw [ecut] at hp2 ⊢
      have sp := (same_new (o := .lst y2) hp1).trans (same_new (o := .lst y2.reverse) hp2)
      have hm2 := sp _ _ hmv
      refine ⟨_, rfl, _, rfl, n, rfl, m, _, n, rfl, rfl, hm2, h0, by rw [List.length_append]; omega, ?_⟩
      have ed2 : (y1 ++ y2).take ((y1 ++ y2).length - n) = y1 := by
        rw [List.length_append, ly2, Nat.add_sub_cancel, List.take_left]
      rw [ed2]
      have nm2 : m ≠ p2 := ne_of_none ((same_new (o := .lst y2) hp1) _ _ hmv) hp2
      refine ⟨_, rfl, .inl ⟨rfl, _, SqL.of upd_same⟩, _, rfl, _, rfl, u1, p, p2, y2.reverse, ts, rfl, (j1.same sp).updL hm2, SqL.of (by rw [upd_ne nm2.symm, upd_same]), ?_, by rw [l]; exact lk, by omega, fun H4 v4 s4 d4 => ?_⟩
      · have := (dy2.same sp).rev.upd (us := y1) hm2
        rw [← List.map_reverse, List.reverse_reverse] at this
        exact this
      have hm4 := s4 _ _ (upd_same (H := upd (upd H' p1 (.lst y2)) p2 (.lst y2.reverse)) (a := m) (o := .lst y1))
      have sm : Same H H4 := (Same.upd (s.trans sp) hm).trans s4
      refine ⟨m, y1, _, rfl, rfl, hm4, smallL (by have := dy1.lenD; rw [List.length_map, List.length_reverse] at this; omega), _, y1 ++ [v4], _, _, _, rfl, Same.upd sm hm, by rw [ed]; exact .node h l h0 lk, upd_same, ?_⟩
      rw [List.reverse_cons, List.map_append]
      exact ((((dy1.same sp).upd hm2).same s4).append (.cons d4 .nil)).upd hm4
  · rintro σ H' ⟨st, mv, o1, o2, o3, rfl, s, pr, hmv, dm⟩
    rw [lw, Nat.sub_self, List.drop_zero] at pr
    obtain rfl := PreL.one hp pr
    cases dm with
    | cons d1 dr =>
      cases dr
      exact ⟨_, rfl, m, _, _, _, rfl, rfl, SqL.of hmv, atI_nat (j := 0) rfl, q _ _ s d1⟩
end
end PK
namespace PK
open PySem L2
/-! what filling and translating mean -/
/-- the last pair of a key -/
def lookA {α β : Type} [DecidableEq α] : List (α × β) → α → Option β
  | [], _ => none
  | (k, v) :: r, s => match lookA r s with | some t => some t | none => if k = s then some v else none
theorem lookA_map {α β γ : Type} [DecidableEq α] (f : β → γ) : ∀ (l : List (α × β)) (s : α), lookA (l.map fun p => (p.1, f p.2)) s = (lookA l s).map f
  | [], _ => rfl
  | (k, v) :: r, s => by
    rw [List.map_cons]
    unfold lookA
    rw [lookA_map f r s]
    cases lookA r s with
    | some t => rfl
    | none => by_cases e : k = s <;> simp [e]
theorem lookA_mem {α β : Type} [DecidableEq α] : ∀ {l : List (α × β)} {s : α} {t : β}, lookA l s = some t → (s, t) ∈ l
  | (k, v) :: r, s, t, h => by
    unfold lookA at h
    cases e : lookA r s with
    | some u =>
      rw [e] at h
      cases h
      exact .tail _ (lookA_mem e)
    | none =>
      rw [e] at h
      by_cases ek : k = s
      · subst ek; simp at h; subst h; exact .head _
      · simp [ek] at h
theorem lookA_has {α β : Type} [DecidableEq α] : ∀ {l : List (α × β)} {s : α}, s ∈ l.map Prod.fst → ∃ t, lookA l s = some t
  | (k, v) :: r, s, h => by
    unfold lookA
    cases e : lookA r s with
    | some u => exact ⟨u, rfl⟩
    | none =>
      rcases List.mem_cons.mp h with h | h
      · exact ⟨v, by simp [h]⟩
      · obtain ⟨t, e2⟩ := lookA_has h
        rw [e] at e2; cases e2
abbrev Tab := List (Str × Tm)
def Tm.filK (tab : Tab) (t : Tm) (ks : List Tm) : Tm := match t with
  | .var s => (lookA tab s).getD (.var s)
  | t => t.withKids ks
def Tm.fill (tab : Tab) (t : Tm) : Tm := t.filK tab (t.kids.attach.map fun k => k.1.fill tab)
termination_by sizeOf t
decreasing_by exact Tm.kid_lt k.2
theorem Tm.fill_eq (tab : Tab) (t : Tm) : t.fill tab = t.filK tab (t.kids.map (Tm.fill tab)) := by
  rw [Tm.fill, List.attach_map_val (f := Tm.fill tab)]
structure Rw where
  nm : Str
  ps : List Str
  t : Tm
def Rw.d (r : Rw) : PyData := .tuple [.str r.nm, .tuple (r.ps.map .str), r.t.d]
def rowOf (R : List Rw) (c : Str) : Option Rw := R.find? fun r => decide (r.nm = c)
theorem rowOf_mem {R : List Rw} (hn : (R.map Rw.nm).Nodup) {r : Rw} (h : r ∈ R) : rowOf R r.nm = some r := by
  unfold rowOf
  induction R with
  | nil => cases h
  | cons x R ih =>
    rw [List.map_cons, List.nodup_cons] at hn
    rcases List.mem_cons.mp h with rfl | h
    · rw [List.find?_cons_of_pos (by simp)]
    · have : ¬ x.nm = r.nm := fun e => hn.1 (by rw [e]; exact List.mem_map.mpr ⟨r, h, rfl⟩)
      rw [List.find?_cons_of_neg (by simp [this]), ih hn.2 h]
def Tm.trK (R : List Rw) (t : Tm) (ks : List Tm) : Tm := match t with
  | .node c ts => (match rowOf R c with | some r => r.t.fill (r.ps.zip ks) | none => .node c ks)
  | t => t.withKids ks
def Tm.trans (R : List Rw) (t : Tm) : Tm := t.trK R (t.kids.attach.map fun k => k.1.trans R)
termination_by sizeOf t
decreasing_by exact Tm.kid_lt k.2
theorem Tm.trans_eq (R : List Rw) (t : Tm) : t.trans R = t.trK R (t.kids.map (Tm.trans R)) := by
  rw [Tm.trans, List.attach_map_val (f := Tm.trans R)]
def trTab (R : List Rw) (tab : Tab) : Tab := tab.map fun p => (p.1, p.2.trans R)
theorem trTab_zip (R : List Rw) : ∀ (ps : List Str) (ts : List Tm), trTab R (ps.zip ts) = ps.zip (ts.map (Tm.trans R))
  | [], _ => rfl
  | _ :: _, [] => rfl
  | p :: ps, t :: ts => by
    rw [List.zip_cons_cons, List.map_cons, List.zip_cons_cons, ← trTab_zip R ps ts]; rfl
/-! height, parts -/
def Tm.ht (t : Tm) : Nat := 1 + (t.kids.attach.map fun k => k.1.ht).foldr max 0
termination_by sizeOf t
decreasing_by exact Tm.kid_lt k.2
theorem Tm.ht_eq (t : Tm) : t.ht = 1 + (t.kids.map Tm.ht).foldr max 0 := by
  rw [Tm.ht, List.attach_map_val (f := Tm.ht)]
theorem fmax_le {n : Nat} : ∀ {l : List Nat}, (∀ x ∈ l, x ≤ n) → l.foldr max 0 ≤ n
  | [], _ => Nat.zero_le _
  | x :: l, h => by
    have h1 := h x List.mem_cons_self
    have h2 := fmax_le (n := n) (l := l) fun y hy => h y (List.mem_cons_of_mem _ hy)
    rw [List.foldr_cons]
    omega
theorem le_fmax : ∀ {l : List Nat} {x : Nat}, x ∈ l → x ≤ l.foldr max 0
  | y :: l, x, h => by
    rw [List.foldr_cons]
    rcases List.mem_cons.mp h with rfl | h
    · omega
    · have := le_fmax h; omega
theorem Tm.ht_kid {t k : Tm} (h : k ∈ t.kids) : k.ht + 1 ≤ t.ht := by
  have := le_fmax (List.mem_map.mpr ⟨k, h, rfl⟩ : k.ht ∈ t.kids.map Tm.ht)
  rw [Tm.ht_eq t]; omega
theorem Tm.ht_le {t : Tm} {n : Nat} (h : ∀ k ∈ t.kids, k.ht ≤ n) : t.ht ≤ n + 1 := by
  rw [Tm.ht_eq t]
  have := fmax_le (n := n) (l := t.kids.map Tm.ht) fun x hx => by
    obtain ⟨k, hk, rfl⟩ := List.mem_map.mp hx
    exact h k hk
  omega
theorem Tm.ht_pos (t : Tm) : 1 ≤ t.ht := by rw [Tm.ht_eq t]; omega
theorem zip_snd : ∀ {es : List (Str × Tm)} {ks : List Tm}, ks.length = es.length → List.zipWith (fun (e : Str × Tm) (k : Tm) => (Prod.snd ((e.1, k) : Str × Tm))) es ks = ks
  | [], [], _ => rfl
  | [], _ :: _, h => nomatch h
  | _ :: _, [], h => nomatch h
  | e :: es, k :: ks, h => by rw [List.zipWith_cons_cons, zip_snd (Nat.succ.inj h)]
theorem Tm.kids_with {t : Tm} {ks : List Tm} (h : ks.length = t.kids.length) : (t.withKids ks).kids = ks := by
  cases t with
  | node c ts => rfl
  | form c ts => rfl
  | map es =>
    have h : ks.length = es.length := by
      have : (Tm.map es).kids.length = es.length := List.length_map ..
      rw [this] at h; exact h
    show (List.zipWith (fun e k => (e.1, k)) es ks).map Prod.snd = ks
    rw [List.map_zipWith]
    exact zip_snd h
  | int _ => exact (List.length_eq_zero_iff.mp h).symm
  | name _ => exact (List.length_eq_zero_iff.mp h).symm
  | addr _ => exact (List.length_eq_zero_iff.mp h).symm
  | var _ => exact (List.length_eq_zero_iff.mp h).symm
theorem Tm.with_nil {t : Tm} (h : t.kids = []) : t.withKids [] = t := by
  cases t with
  | node c ts => have h : ts = [] := h; rw [h]; rfl
  | form c ts => have h : ts = [] := h; rw [h]; rfl
  | map es =>
    have : es = [] := List.map_eq_nil_iff.mp h
    rw [this]; rfl
  | _ => rfl
theorem Tm.size_pos (t : Tm) : 1 ≤ t.size := by rw [Tm.size_eq t]; omega
/-- a property of all parts -/
inductive Al (p : Tm → Prop) : Tm → Prop
  | mk {t : Tm} : p t → (∀ k ∈ t.kids, Al p k) → Al p t
theorem Al.at_ {p : Tm → Prop} {t : Tm} (h : Al p t) : p t := by cases h; assumption
theorem Al.kid {p : Tm → Prop} {t k : Tm} (h : Al p t) (hk : k ∈ t.kids) : Al p k := by cases h with | mk _ h => exact h k hk
def okN (R : List Rw) (t : Tm) : Prop := t.kids.length ≤ 1000 ∧ ∀ c ts, t = .node c ts → ∃ r ∈ R, r.nm = c ∧ r.ps.length = ts.length
def okT (R : List Rw) : Tm → Prop := Al (okN R)
def okP (ps : List Str) : Tm → Prop := Al fun t => t.kids.length ≤ 1000 ∧ ∀ s, t = .var s → s ∈ ps
structure okR (R : List Rw) : Prop where
  nd : (R.map Rw.nm).Nodup
  len : R.length ≤ 1000
  ar : ∀ r ∈ R, r.ps.length ≤ 1000
  p : ∀ r ∈ R, okP r.ps r.t
  node : ∀ r ∈ R, ∃ c ts, r.t = .node c ts
/-- what waits to be translated -/
structure Itm where
  part : Tm
  b : Option Tab
  dep : Nat
def Itm.f (R : List Rw) (it : Itm) (t : Tm) : Tm := match it.b with
  | none => t.trans R
  | some tab => t.fill (trTab R tab)
def Itm.res (R : List Rw) (it : Itm) : Tm := it.f R it.part
def Itm.ok (R : List Rw) (it : Itm) : Prop := match it.b with
  | none => okT R it.part
  | some tab => okP (tab.map Prod.fst) it.part ∧ (∀ p ∈ tab, okT R p.2)
/-- a metavariable that stands for something -/
def Itm.s1 (it : Itm) : Itm := match it.b, it.part with
  | some tab, .var s => (match lookA tab s with | some t => ⟨t, none, it.dep⟩ | none => it)
  | _, _ => it
theorem Itm.s1_dep (it : Itm) : it.s1.dep = it.dep := by
  unfold Itm.s1
  split
  · split <;> rfl
  · rfl
theorem Itm.s1_res {R : List Rw} (it : Itm) : it.s1.res R = it.res R := by
  obtain ⟨part, b, dep⟩ := it
  unfold Itm.s1
  dsimp only
  split
  · rename_i tab s
    cases e : lookA tab s with
    | none => rfl
    | some t =>
      show t.trans R = (Tm.var s).fill (trTab R tab)
      rw [Tm.fill_eq]
      show _ = (lookA (trTab R tab) s).getD (.var s)
      unfold trTab
      rw [lookA_map, e]; rfl
  · rfl
theorem Itm.s1_ok {R : List Rw} {it : Itm} (h : it.ok R) : it.s1.ok R := by
  obtain ⟨part, b, dep⟩ := it
  unfold Itm.s1
  dsimp only
  split
  · rename_i tab s
    cases e : lookA tab s with
    | none => exact h
    | some t => exact h.2 (s, t) (lookA_mem e)
  · exact h
theorem Itm.s1_var {R : List Rw} {it : Itm} (h : it.ok R) : it.s1.b ≠ none → ∀ s, it.s1.part ≠ .var s := by
  obtain ⟨part, b, dep⟩ := it
  unfold Itm.s1
  dsimp only
  split
  · rename_i tab s
    obtain ⟨t, e⟩ := lookA_has (h.1.at_.2 s rfl)
    rw [e]
    exact fun h => absurd rfl h
  · rename_i hx
    intro hb s e
    dsimp only at hb e
    cases b with
    | none => exact hb rfl
    | some tab => exact hx tab s rfl e
/-- a node of the source -/
def Itm.s2 (R : List Rw) (it : Itm) : Itm := match it.b, it.part with
  | none, .node c ts => (match rowOf R c with | some r => ⟨r.t, some (r.ps.zip ts), it.dep⟩ | none => it)
  | _, _ => it
theorem Itm.s2_dep {R : List Rw} (it : Itm) : (it.s2 R).dep = it.dep := by
  unfold Itm.s2
  split
  · split <;> rfl
  · rfl
theorem Itm.s2_res {R : List Rw} (it : Itm) : (it.s2 R).res R = it.res R := by
  obtain ⟨part, b, dep⟩ := it
  unfold Itm.s2
  dsimp only
  split
  · rename_i c ts
    cases e : rowOf R c with
    | none => rfl
    | some r =>
      show r.t.fill (trTab R (r.ps.zip ts)) = (Tm.node c ts).trans R
      rw [Tm.trans_eq, trTab_zip]
      unfold Tm.trK
      dsimp only
      rw [e]; rfl
  · rfl
theorem Itm.s2_ok {R : List Rw} (O : okR R) {it : Itm} (h : it.ok R) : (it.s2 R).ok R := by
  obtain ⟨part, b, dep⟩ := it
  unfold Itm.s2
  dsimp only
  split
  · rename_i c ts
    obtain ⟨r, hr, rfl, hl⟩ := (show okT R (.node c ts) from h).at_.2 c ts rfl
    rw [rowOf_mem O.nd hr]
    refine ⟨?_, fun p hp => ?_⟩
    · rw [List.map_fst_zip (by omega)]; exact O.p r hr
    · exact (show okT R (.node r.nm ts) from h).kid (List.of_mem_zip hp).2
  · exact h
/-- what both steps lead to -/
structure Itm.can (R : List Rw) (it : Itm) : Prop where
  ok : it.ok R
  v : it.b ≠ none → ∀ s, it.part ≠ .var s
  n : it.b = none → ∀ c ts, it.part ≠ .node c ts
theorem Itm.s2_can {R : List Rw} (O : okR R) {it : Itm} (h : it.ok R) (hv : it.b ≠ none → ∀ s, it.part ≠ .var s) : (it.s2 R).can R := by
  refine ⟨Itm.s2_ok O h, ?_, ?_⟩
  · obtain ⟨part, b, dep⟩ := it
    unfold Itm.s2
    dsimp only
    split
    · rename_i c ts
      obtain ⟨r, hr, rfl, hl⟩ := (show okT R (.node c ts) from h).at_.2 c ts rfl
      rw [rowOf_mem O.nd hr]
      obtain ⟨c', ts', e⟩ := O.node r hr
      intro _ s e2
      rw [show r.t = Tm.var s from e2] at e
      cases e
    · exact hv
  · obtain ⟨part, b, dep⟩ := it
    unfold Itm.s2
    dsimp only
    split
    · rename_i c ts
      obtain ⟨r, hr, rfl, hl⟩ := (show okT R (.node c ts) from h).at_.2 c ts rfl
      rw [rowOf_mem O.nd hr]
      intro e; cases e
    · rename_i hx
      intro hb c ts e
      exact hx c ts hb e
theorem Itm.can_len {R : List Rw} {it : Itm} (h : it.can R) : it.part.kids.length ≤ 1000 := by
  obtain ⟨part, b, dep⟩ := it
  cases b with
  | none => exact (show okT R part from h.ok).at_.1
  | some tab => exact (h.ok.1).at_.1
theorem Itm.can_kid {R : List Rw} {it : Itm} (h : it.can R) {k : Tm} (hk : k ∈ it.part.kids) : (Itm.mk k it.b (it.dep + 1)).ok R := by
  obtain ⟨part, b, dep⟩ := it
  cases b with
  | none => exact (show okT R part from h.ok).kid hk
  | some tab => exact ⟨h.ok.1.kid hk, h.ok.2⟩
theorem Itm.can_res {R : List Rw} {it : Itm} (h : it.can R) : it.res R = it.part.withKids (it.part.kids.map (it.f R)) := by
  obtain ⟨part, b, dep⟩ := it
  cases b with
  | none =>
    show part.trans R = part.withKids (part.kids.map (Tm.trans R))
    rw [Tm.trans_eq]
    cases part with
    | node c ts => exact absurd rfl (h.n rfl c ts)
    | _ => rfl
  | some tab =>
    show part.fill (trTab R tab) = part.withKids (part.kids.map (Tm.fill (trTab R tab)))
    rw [Tm.fill_eq]
    cases part with
    | var s => exact absurd rfl (h.v (by simp) s)
    | _ => rfl
theorem Itm.can_size {R : List Rw} {it : Itm} (h : it.can R) : (it.res R).size = 1 + ((it.part.kids.map (it.f R)).map Tm.size).sum := by
  rw [it.can_res h, Tm.size_eq, Tm.kids_with (by rw [List.length_map])]
theorem Itm.can_ht {R : List Rw} {it : Itm} (h : it.can R) {k : Tm} (hk : k ∈ it.part.kids) : (it.f R k).ht + 1 ≤ (it.res R).ht := by
  refine Tm.ht_kid ?_
  rw [it.can_res h, Tm.kids_with (by rw [List.length_map])]
  exact List.mem_map.mpr ⟨k, hk, rfl⟩
/-- one head more -/
theorem Itm.can_pre {R : List Rw} {it : Itm} (h : it.can R) {rest : List Tm} {hs : List (Tm × Nat)} (p : PreL (it.part.kids.map (it.f R) ++ rest) hs) : PreL (it.res R :: rest) ((it.part, it.part.kids.length) :: hs) := by
  rw [it.can_res h]
  by_cases e : it.part.kids = []
  · rw [e] at p ⊢
    rw [List.map_nil] at p ⊢
    rw [Tm.with_nil e]
    exact .leaf p
  · exact .node p (by rw [List.length_map]) (List.length_pos_iff.mpr e) rfl
def totI (R : List Rw) (its : List Itm) : Nat := (its.map fun i => (i.res R).size).sum
end PK
namespace PK
open PySem L2
/-! children, told in a view that is smaller than the heap -/
section
variable {K : PySem.W.Frag} {It : It} {n : Nat} {G : Hp → Prop} {Y : Nat → Hp → V → Hp → Prop}
/-- a comprehension whose items are data in a view that stands fixed -/
theorem lcV (wk : Walk It n G Y) {g : TG} {te : TE} {vs : List Nat} {σ : L2.St} {H1 Hv : Hp} {D : Addr} {Qd : Hp → Prop} (hD : H1 D = none) (hn : n ≤ 10000000) (ds : List PyData) (hl : ds.length = n) (hG : ∀ H', Same H1 H' → G H')
    (hs : ∀ i x H H' d (R : V → Hp → Prop), ds[i]? = some d → Same H1 H → Y i H x H' → (∀ y H4, Same H H4 → Dt K Hv y d → R y H4) → g x (wipe σ vs) H' fun σ2 H2 => wipe σ2 vs = wipe σ vs ∧ te σ2 H2 R)
    (hd : ∀ H' ws, Same H1 H' → H' D = some (.lst ws) → DtAll K Hv ws ds → Qd H') :
    ∃ W : Nat → Nat → Hp → Prop, (∃ m, W 0 m (upd H1 D (.lst []))) ∧ ∀ i m H, W i m H →
      (It.stop i H ∧ Qd H) ∨ (It.go i H ∧ ∃ Nx : Hp → Prop, (∀ H', Nx H' → ∃ m', m' < m ∧ W (i + 1) m' H') ∧ ∀ x H', It.yld i H x H' → g x (wipe σ vs) H' fun σ2 H2 => wipe σ2 vs = wipe σ vs ∧ tYes σ2 H2 fun b H3 =>
        if b = true then te σ2 H3 fun y H4 => ∃ acc, H4 D = some (.lst acc) ∧ acc.length < sizeLine ∧ Nx (upd H4 D (.lst (acc ++ [y]))) else Nx H3) := by
  refine lc_it wk (fun i H' => i ≤ n ∧ ∃ ws : List V, Same H1 H' ∧ H' D = some (.lst ws) ∧ DtAll K Hv ws (ds.take i)) ⟨Nat.zero_le _, [], same_new hD, upd_same, .nil⟩ (fun i H' _ h => ?_) (fun i x H H' hi h y => ?_) (fun H' h => ?_)
  · obtain ⟨_, _, s, _⟩ := h
    exact hG _ s
  · obtain ⟨_, ws, s, hw, da⟩ := h
    have hid : ds[i]? = some ds[i] := List.getElem?_eq_getElem (by omega)
    refine hs i x H H' ds[i] _ hid s y fun z H4 s4 dz => ?_
    have hw4 := s4 _ _ hw
    have lw : ws.length = i := by rw [da.lenD, List.length_take]; omega
    refine ⟨ws, hw4, smallL (by omega), hi, ws ++ [z], Same.upd (s.trans s4) hD, upd_same, ?_⟩
    rw [List.take_add_one, hid]
    exact da.append (.cons dz .nil)
  · obtain ⟨_, ws, s, hw, da⟩ := h
    rw [List.take_of_length_le (by omega)] at da
    exact hd _ ws s hw da
end
def spKidsV (K : PySem.W.Frag) : Sp := fun vs H Q _ => ∃ (v : V) (t : Tm) (Hv : Hp), vs = [v] ∧ (∀ a xs, SqT K Hv a xs → SqT K H a xs) ∧ Dt K Hv v t.d ∧ t.kids.length ≤ 10000000 ∧
  ∀ (H' : Hp) (p : Addr) (ws : List V), Same H H' → SqT K H' p ws → DtAll K Hv ws (t.kids.map Tm.d) → Q (.ref p) H'
section
variable {P : Program} {w : World} {K : PySem.W.Frag} {mg : Str → Option Value} {base : Heap} {aF : Addr}
theorem ok_kidsV {f : Addr} {fd : FuncData} (F : Fun K "children" "children" s_children f fd) (T : TxtT K mg aF) : FnOk P w K mg base CX0 1 f fd ["term"] (spKidsV K) := by
  refine F.ok sc_children (fun vs H Q E h => ?_) (fun cdv A outer s H vs Q E hr h => ?_)
  · obtain ⟨v, t, _, rfl, _⟩ := h
    rfl
  obtain ⟨v, t, Hv, rfl, up, hv, hn, q⟩ := h
  refine ⟨_, (pss_cons (ps_if (pt_cmpR op_eq (pe_ix ix_tup (pv 0) pe_int (fun _ _ => rfl)) pe_str (nomark _)) (pss_one (ps_ret (pe_ix ix_tup (pv 0) pe_int (fun _ _ => rfl)))) pss_nil)
    (pss_cons (ps_if (pt_cmpR op_eq (pe_ix ix_tup (pv 0) pe_int (fun _ _ => rfl)) pe_str (nomark _)) (pss_one (ps_ret (pe_callTy call_tuple_of (by rfl) T.z_tuple (by decide +kernel) (pa_cons (pe_lc (own := [("_", 1), ("entry", 2)]) (g := (gTup K 2 (gCons (gName 1) (gCons (gName 2) gNil)))) (tt := tYes) (by rfl) sc_children.nd (pi_tup (pe_ix ix_tup (pv 0) pe_int (fun _ _ => rfl))) (blkOk_by (N := ["term", "_", "entry"]) (sc := defScope s_children) (by decide +kernel)) (fun _ _ _ _ _ => (pg_tup (by rfl) (pgs_cons (pg_name (i := 1) sc_children.nd rfl (Or.inl rfl)) (pgs_cons (pg_name (i := 2) sc_children.nd rfl (Or.inl rfl)) pgs_nil)))) (fun _ _ _ _ _ => pts_nil) (fun _ _ _ _ _ => (pv 2))) pa_nil)))) pss_nil)
    (pss_cons (ps_if (pt_cmpR op_in_seq (pe_ix ix_tup (pv 0) pe_int (fun _ _ => rfl)) (pe_glob (v := .ref aF) rfl T.g_FO rfl) rfl) (pss_one (ps_ret (pe_slice sl_tup (pv 0) (po_some pe_int) po_none))) pss_nil)
    (pss_one (ps_ret (pe_tup pa_nil)))))), ?_⟩
  cases t with
  | node c ts =>
    unfold Tm.d at hv
    obtain ⟨a, x, y, z, rfl, hs, h1, h2, h3⟩ := Dt.t3 hv
    obtain rfl := h1.s
    obtain ⟨b, ys, rfl, hb, hys⟩ := Dt.tn h3
    refine vTx rfl (up _ _ hs) rfl ⟨rfl, _, rfl, sT rfl (vTx rfl (up _ _ hs) rfl ?_)⟩
    exact q H b ys (Same.refl H) (up _ _ hb) (by rw [Tm.ds_map] at hys; exact hys)
  | map es =>
    unfold Tm.d at hv
    obtain ⟨a, x, y, rfl, hs, h1, h2⟩ := Dt.t2 hv
    obtain rfl := h1.s
    obtain ⟨b, ys, rfl, hb, hys⟩ := Dt.tn h2
    rw [Tm.es_map] at hys
    have ly : ys.length = es.length := by rw [hys.lenD, List.length_map]
    have hn' : es.length ≤ 10000000 := by rw [show (Tm.map es).kids = es.map Prod.snd from rfl, List.length_map] at hn; exact hn
    refine vTx rfl (up _ _ hs) rfl ⟨rfl, _, rfl, sF (by decide +kernel) (vTx rfl (up _ _ hs) rfl ⟨rfl, _, rfl, sT rfl ?_⟩)⟩
    refine vTx rfl (up _ _ hs) rfl ⟨b, rfl, ⟨_, up _ _ hb⟩, fun D hD => lcV (K := K) (Hv := Hv) (walk_tup (xs := ys)) hD (by omega) (es.map fun e => e.2.d) (by rw [List.length_map, ly]) (fun H' s => Same.seqT s (up _ _ hb)) ?_ ?_⟩
    · rintro i x H1 H2 d R hi s ⟨rfl, gx⟩ r
      obtain ⟨e, ge, dx⟩ := DtAll.getX hys gx
      rw [List.getElem?_map] at ge hi
      cases e0 : es[i]? with
      | none => rw [e0] at ge; cases ge
      | some en =>
        rw [e0] at ge hi
        cases ge
        cases hi
        obtain ⟨a1, x1, y1, rfl, hs1, k1, k2⟩ := Dt.t2 dx
        exact ⟨a1, _, rfl, Same.seqT s (up _ _ hs1), rfl, _, _, rfl, _, _, rfl, rfl, rfl, _, rfl, r y1 _ (Same.refl _) k2⟩
    · rintro H' ws s hw da
      refine ⟨D, _, rfl, .inl ⟨SqL.of hw, fun p hp => ?_⟩⟩
      refine q _ p ws (Same.upd s ((Same.refl H).trans s |>.free hp)) (SqT.of upd_same) ?_
      rw [show (Tm.map es).kids.map Tm.d = es.map fun e => e.2.d from by unfold Tm.kids; rw [List.map_map]; rfl]
      exact da
  | form g ts =>
    unfold Tm.d at hv
    obtain ⟨a, xs, rfl, hs, da⟩ := Dt.tn hv
    cases da with
    | cons h1 dr =>
    obtain rfl := h1.s
    rename_i vs1
    have hs := up _ _ hs
    refine vTx rfl hs (atI_nat (j := 0) rfl) ⟨rfl, _, rfl, sF g.ne_node (vTx rfl hs (atI_nat (j := 0) rfl) ⟨rfl, _, rfl, sF g.ne_map (vTx (v := .str g.s) rfl hs (atI_nat (j := 0) rfl) ⟨aF, _, rfl, .inr (T.forms H), rfl, rfl, _, rfl, ?_⟩)⟩)⟩
    rw [if_neg Bool.false_ne_true, g.inF]
    refine iteT ⟨_, rfl, _, rfl, a, _, rfl, hs, fun z => ?_, fun p hp => ?_⟩
    · have e := z.1
      revert e
      show (HT.sIx (vs1.length + 1) 0 (some 1) = 0) → False
      unfold HT.sIx
      intro e
      simp at e
    · have ec : cutV (V.str g.s :: vs1) (some 1) none = vs1 := by
        unfold cutV HT.sIx
        simp
      rw [ec]
      refine q _ p vs1 (same_new hp) (SqT.of upd_same) ?_
      rw [Tm.ds_map] at dr
      exact dr
  | int n =>
    unfold Tm.d at hv
    obtain ⟨a, x, y, rfl, hs, h1, h2⟩ := Dt.t2 hv
    obtain rfl := h1.s
    refine vTx rfl (up _ _ hs) rfl ⟨rfl, _, rfl, sF (by decide +kernel) (vTx rfl (up _ _ hs) rfl ⟨rfl, _, rfl, sF (by decide +kernel) (vTx (v := .str "int") rfl (up _ _ hs) rfl ⟨aF, _, rfl, .inr (T.forms H), rfl, rfl, _, rfl, ?_⟩)⟩)⟩
    rw [if_neg Bool.false_ne_true, show inV (.str "int") [V.str "get", V.str "set", V.str "plus", V.str "minus"] = false by decide +kernel]
    exact iteF ⟨Nat.zero_le _, fun p hp => q _ p [] (same_new hp) (SqT.of upd_same) .nil⟩
  | name n =>
    unfold Tm.d at hv
    obtain ⟨a, x, y, rfl, hs, h1, h2⟩ := Dt.t2 hv
    obtain rfl := h1.s
    refine vTx rfl (up _ _ hs) rfl ⟨rfl, _, rfl, sF (by decide +kernel) (vTx rfl (up _ _ hs) rfl ⟨rfl, _, rfl, sF (by decide +kernel) (vTx (v := .str "name") rfl (up _ _ hs) rfl ⟨aF, _, rfl, .inr (T.forms H), rfl, rfl, _, rfl, ?_⟩)⟩)⟩
    rw [if_neg Bool.false_ne_true, show inV (.str "name") [V.str "get", V.str "set", V.str "plus", V.str "minus"] = false by decide +kernel]
    exact iteF ⟨Nat.zero_le _, fun p hp => q _ p [] (same_new hp) (SqT.of upd_same) .nil⟩
  | addr n =>
    unfold Tm.d at hv
    obtain ⟨a, x, y, rfl, hs, h1, h2⟩ := Dt.t2 hv
    obtain rfl := h1.s
    refine vTx rfl (up _ _ hs) rfl ⟨rfl, _, rfl, sF (by decide +kernel) (vTx rfl (up _ _ hs) rfl ⟨rfl, _, rfl, sF (by decide +kernel) (vTx (v := .str "addr") rfl (up _ _ hs) rfl ⟨aF, _, rfl, .inr (T.forms H), rfl, rfl, _, rfl, ?_⟩)⟩)⟩
    rw [if_neg Bool.false_ne_true, show inV (.str "addr") [V.str "get", V.str "set", V.str "plus", V.str "minus"] = false by decide +kernel]
    exact iteF ⟨Nat.zero_le _, fun p hp => q _ p [] (same_new hp) (SqT.of upd_same) .nil⟩
  | var n =>
    unfold Tm.d at hv
    obtain ⟨a, x, y, rfl, hs, h1, h2⟩ := Dt.t2 hv
    obtain rfl := h1.s
    refine vTx rfl (up _ _ hs) rfl ⟨rfl, _, rfl, sF (by decide +kernel) (vTx rfl (up _ _ hs) rfl ⟨rfl, _, rfl, sF (by decide +kernel) (vTx (v := .str "meta") rfl (up _ _ hs) rfl ⟨aF, _, rfl, .inr (T.forms H), rfl, rfl, _, rfl, ?_⟩)⟩)⟩
    rw [if_neg Bool.false_ne_true, show inV (.str "meta") [V.str "get", V.str "set", V.str "plus", V.str "minus"] = false by decide +kernel]
    exact iteF ⟨Nat.zero_le _, fun p hp => q _ p [] (same_new hp) (SqT.of upd_same) .nil⟩
theorem kids_of {n : Nat} (C : C8.Cal P w K mg base n "children" (spKidsV K) []) : C8.Cal P w K mg base n "children" (spKids K) [] := by
  obtain ⟨f, fd, ps, ds, F, r⟩ := C
  refine ⟨f, fd, ps, ds, F.imp fun vs H Q E h => ?_, r⟩
  obtain ⟨v, t, e, hv, hl, q⟩ := h
  exact ⟨v, t, H, e, fun _ _ z => z, hv, hl, fun H' p ws s hs da => q H' p ws s hs (da.same s)⟩
end
end PK
namespace PK
open PySem L2 GenF GenW PyProof.Rows
/-! parts_of: a generator -/
def Tm.parts (t : Tm) : List Tm := t :: (t.kids.attach.map fun k => k.1.parts).flatten
termination_by sizeOf t
decreasing_by exact Tm.kid_lt k.2
theorem Tm.parts_eq (t : Tm) : t.parts = t :: (t.kids.map Tm.parts).flatten := by
  rw [Tm.parts, List.attach_map_val (f := Tm.parts)]
theorem Tm.parts_len (t : Tm) : t.parts.length = t.size := by
  induction t using Tm.ind with
  | h t ih =>
    rw [Tm.parts_eq, Tm.size_eq, List.length_cons, List.length_flatten, List.map_map, Nat.add_comm]
    congr 1
    exact congrArg List.sum (List.map_congr_left ih)
/-- what is still to come of a stack, its end first -/
def todo (ts : List Tm) : List Tm := (ts.reverse.map Tm.parts).flatten
theorem DtAll.reverse {K : PySem.W.Frag} {H : Hp} : ∀ {xs : List V} {ds : List PyData}, DtAll K H xs ds → DtAll K H xs.reverse ds.reverse
  | _, _, .nil => .nil
  | _, _, .cons h t => by rw [List.reverse_cons, List.reverse_cons]; exact (DtAll.reverse t).append (.cons h .nil)
theorem todo_nil : todo [] = [] := rfl
theorem todo_snoc (ts : List Tm) (t : Tm) : todo (ts ++ [t]) = t :: todo (ts ++ t.kids.reverse) := by
  unfold todo
  rw [List.reverse_append, List.reverse_append, List.map_append, List.map_append, List.flatten_append, List.flatten_append, List.reverse_reverse]
  show (Tm.parts t :: []).flatten ++ _ = _
  rw [show (Tm.parts t :: []).flatten = t.parts from by simp, Tm.parts_eq]
  rfl
theorem todo_one (t : Tm) : todo [t] = t.parts := by simp [todo]
theorem todo_kids {ts : List Tm} {t : Tm} : (ts ++ t.kids.reverse).length ≤ (todo (ts ++ t.kids.reverse)).length := by
  unfold todo
  rw [List.length_flatten, List.map_map, ← List.length_reverse (as := ts ++ t.kids.reverse)]
  generalize (ts ++ t.kids.reverse).reverse = l
  induction l with
  | nil => exact Nat.le_refl _
  | cons a r ih =>
    have : 1 ≤ a.parts.length := by rw [Tm.parts_eq, List.length_cons]; omega
    rw [List.map_cons, List.sum_cons, List.length_cons]
    show _ ≤ a.parts.length + _
    omega
/-- the parts of a term, read in the tuples of the heap at the call -/
def itParts (K : PySem.W.Frag) (H : Hp) (ts : List Tm) : Nat → V → Prop := fun i x => ∃ t, ts[i]? = some t ∧ Dt K (tupsOf H) x t.d
def spParts (K : PySem.W.Frag) : SpI := fun vs H n it => ∃ (v : V) (t : Tm), vs = [v] ∧ Dt K H v t.d ∧ t.size ≤ 1000000 ∧ n = t.size ∧ it = itParts K H t.parts
theorem sq_tups {K : PySem.W.Frag} {H : Hp} {a : Addr} {xs : List V} (s : SqT K H a xs) : SqT K (tupsOf H) a xs := by
  rcases s with s | s
  · exact .inl (.inl (tupsOf_rd s))
  · exact .inr s
section
variable {P : Program} {w : World} {K : PySem.W.Frag} {mg : Str → Option Value} {base : Heap} {aF : Addr}
abbrev s_parts_of : Stmt := topS 12
abbrev stP (i : Nat) : Stmt := (defBody s_parts_of).getD i (.Pass ⟨0, 0, 0, 0⟩)
def whTest : Stmt → Expr
  | .While t _ _ _ => t
  | _ => .Constant .none 0 ⟨0, 0, 0, 0⟩
def whBody : Stmt → List Stmt
  | .While _ b _ _ => b
  | _ => []
abbrev stW (i : Nat) : Stmt := (whBody (stP 1)).getD i (.Pass ⟨0, 0, 0, 0⟩)
def yieldE : Stmt → Expr
  | .Expr (.Yield (some e) _) _ => e
  | _ => .Constant .none 0 ⟨0, 0, 0, 0⟩
theorem lk_none {sc : Scope} (h : sc.names.all (fun y => !decide (y.2 = .cell) && !decide (y.2 = .free)) = true) (x : Str) : sc.names.lookup x ≠ some .cell ∧ sc.names.lookup x ≠ some .free := by
  refine ⟨fun e => ?_, fun e => ?_⟩ <;>
  · have := List.all_eq_true.mp h _ (PySem.mem_of_lookup e)
    simp at this
theorem nc_parts : NoCells (defScope s_parts_of) := ⟨rfl, rfl, rfl, fun _ => rfl, lk_none (by decide +kernel)⟩
abbrev eP (G : Gs) (f : Addr) (cd : Value) : Env := envOfC "parts_of" (defScope s_parts_of) G.F f cd
abbrev cP (G : Gs) (mg : Str → Option Value) (f : Addr) (cd : Value) (Hw : Hp) (sn : Shared) : Cx := cxG G mg ["term", "waiting", "part"] "parts_of" (defScope s_parts_of) f cd Hw sn
abbrev codeP (G : Gs) (f : Addr) (cd : Value) : Code := .whileLoop (whTest (stP 1)) (whBody (stP 1)) [] (eP G f cd)
theorem seqT_updL {H : Hp} {D a : Addr} {vs ws zs : List V} (h : SqT K H a zs) (hD : H D = some (.lst vs)) : SqT K (upd H D (.lst ws)) a zs := seqT_upd h hD
theorem seg_loop {G : Gs} {f : Addr} {cd : Value} (S : GStat G mg) (hx : G.x = "waiting") (C_children : C8.Cal G.P G.w G.K mg G.base 1 "children" (spKidsV G.K) []) (hr : Room 1 (G.A.in1.deeper (eP G f cd)))
    {body : List Stmt} {kk : Result → Sem PySem.Fin} {l kp : List Value} {p : Pos} (hend : ∀ sn s : Shared, Stp G sn s → Seg G.M G.A.in1 (GRe G) (GYp G) 0 sn (.func body (eP G f cd)) (kk (.ok .next)) [] s) :
    ∀ (n : Nat) (sn : Shared) (own : List (Addr × Obj)) (Hw : Hp) (Wa : Addr) (ws : List V) (ts : List Tm) (s : Shared) (H : Hp) (v pt : Option V), Wk G own sn → (G.a, G.go) ∈ own → (∀ b, b < G.F → Hw b = Hw0 G sn b) → Hw G.F = none → (∀ b, ¬ OwnF G.x sn.heap G.F b → Hw b = Hw0 G sn b) →
      (∀ b, OwnF G.x sn.heap G.F b → b ≠ G.F → b = Wa) → (OwnF G.x sn.heap G.F Wa ∨ sn.heap.objs.size ≤ Wa) → G.F < Wa → Wa ≠ G.a → Inv (cP G mg f cd Hw sn) [] [v, some (.ref Wa), pt] H s → H Wa = some (.lst ws) → (∀ a xs, SqT G.K (tupsOf G.H1) a xs → SqT G.K H a xs) →
      DtAll G.K (tupsOf G.H1) ws (ts.map Tm.d) → n = (todo ts).length → n ≤ 1000000 → ts.length ≤ n → n ≤ G.n → (∀ j t x, (todo ts)[j]? = some t → Dt G.K (tupsOf G.H1) x t.d → G.it (G.n - n + j) x) →
      Seg G.M G.A.in1 (GRe G) (GYp G) n sn (codeP G f cd) (G.M.den (codeP G f cd)) [.ret kk none false l (.func body (eP G f cd)) p kp] s := by
  have stpO : ∀ {sn : Shared} {own : List (Addr × Obj)} {Hw : Hp} {Wa : Addr} {s : Shared} {H : Hp} {σ : L2.St} {ws : List V}, Wk G own sn → (∀ b, b < G.F → Hw b = Hw0 G sn b) → (∀ b, ¬ OwnF G.x sn.heap G.F b → Hw b = Hw0 G sn b) → (∀ b, OwnF G.x sn.heap G.F b → b ≠ G.F → b = Wa) →
      Inv (cP G mg f cd Hw sn) [] σ H s → H Wa = some (.lst ws) → Stp G sn s := fun {sn own Hw Wa s H σ ws} W lo hno hown I hl => stp_of S W I hno lo fun b hb hne => by
    rw [hown b hb hne]
    obtain ⟨_, _, _, _, e⟩ := I.hok Wa _ hl
    exact ⟨_, e⟩
  have pt1 : ∀ (Hw : Hp) (sn : Shared), PT (cP G mg f cd Hw sn) (whTest (stP 1)) _ := fun Hw sn => pt_truth (pv 1) (by intro _; rfl)
  have ps1 : ∀ (Hw : Hp) (sn : Shared), PS (cP G mg f cd Hw sn) (stW 0) _ := fun Hw sn => ps_set (i := 2) (by show (["term", "waiting", "part"] : List Str).Nodup; decide +kernel) rfl (.inl rfl) (pe_bm0 PySem.F.plainAttrs_list PySem.F.slot_list_pop PySem.F.type_list_pop mt_pop (pv 1))
  have pe2 : ∀ (Hw : Hp) (sn : Shared), PE (cP G mg f cd Hw sn) (yieldE (stW 1)) _ := fun Hw sn => pv 2
  have ps3 : ∀ (Hw : Hp) (sn : Shared), PS (cP G mg f cd Hw sn) (stW 2) _ := fun Hw sn => ps_expr (pe_bm PySem.F.plainAttrs_list PySem.F.slot_list_extend PySem.F.type_list_extend PKZ.mt_extendT (pv 1) (pa_cons (PKZ.pe_revT (C8.pe_c C_children hr (Nat.le_refl 1) rfl (pa_cons (pv 2) pa_nil))) pa_nil))
  intro n
  induction n with
  | zero =>
    intro sn own Hw Wa ws ts s H v pt W ago lo hF hno hown hnew hlt hWa I hl up da en n6 nt nG items
    have hts : ts = [] := List.length_eq_zero_iff.mp (by omega)
    subst hts
    have hws : ws = [] := by cases da; rfl
    subst hws
    refine seg_whileLoop ?_
    rw [over_loop rfl rfl, over_func]
    refine wpAny_mono ((pt1 Hw sn).run [] s _ H (fun b H' => b = false ∧ H' = H) I ⟨_, rfl, false, .inl ⟨[], SqL.of hl, rfl⟩, rfl, rfl⟩) (fun b s' ⟨H', I', hb, eH⟩ => ?_) fun _ _ z => False.elim z
    subst hb eH
    rw [if_neg Bool.false_ne_true]
    exact seg_execs_nil (seg_leaf (.ok .next) (hend sn s' (stpO W lo hno hown I' hl)))
  | succ m ih =>
    intro sn own Hw Wa ws ts s H v pt W ago lo hF hno hown hnew hlt hWa I hl up da en n6 nt nG items
    have tne : ts ≠ [] := fun e => by rw [e] at en; cases en
    obtain ⟨tr, t, rfl⟩ : ∃ tr t, ts = tr ++ [t] := ⟨ts.dropLast, ts.getLast tne, (List.dropLast_concat_getLast tne).symm⟩
    rw [List.map_append] at da
    obtain ⟨wr, wl, rfl, dr, dl⟩ := DtAll.splitR da
    obtain ⟨x, rfl, dx⟩ : ∃ x, wl = [x] ∧ Dt G.K (tupsOf G.H1) x t.d := by
      cases dl with
      | cons h r => cases r; exact ⟨_, rfl, h⟩
    rw [todo_snoc] at en items
    have en' : m = (todo (tr ++ t.kids.reverse)).length := by rw [List.length_cons] at en; omega
    refine seg_whileLoop ?_
    rw [over_loop rfl rfl, over_func]
    refine wpAny_mono ((pt1 Hw sn).run [] s _ H (fun b H' => b = true ∧ H' = H) I ⟨_, rfl, true, .inl ⟨_, SqL.of hl, by simp⟩, rfl, rfl⟩) (fun b s' ⟨H', I', hb, eH⟩ => ?_) fun _ _ z => False.elim z
    subst hb eH
    rw [if_pos rfl]
    -- part = waiting.pop()
    refine seg_execs_cons (st := stW 0) (rest := [stW 1, stW 2]) (seg_wrap ?_)
    rw [over_loop rfl rfl, over_func]
    refine wpAny_mono ((ps1 Hw sn).run [] s' _ H' { nx := fun σ H2 => σ = [v, some (.ref Wa), some x] ∧ H2 = upd H' Wa (.lst wr), rt := fun _ _ => False } I' ?_) (fun fl s2 h2 => ?_) fun _ _ z => False.elim z
    · refine ⟨_, rfl, .inl ⟨rfl, _, SqL.of hl⟩, Wa, _, x, rfl, rfl, hl, by simp, ?_⟩
      rw [List.dropLast_concat]
      exact ⟨rfl, rfl⟩
    cases fl with
    | ret _ => obtain ⟨_, _, _, _, _, z⟩ := h2; exact z.elim
    | brk => obtain ⟨_, _, _, z⟩ := h2; exact z.elim
    | cont => obtain ⟨_, _, _, z⟩ := h2; exact z.elim
    | next =>
    obtain ⟨σ2, H2, I2, rfl, rfl⟩ := h2
    -- yield part
    refine seg_execs_cons (st := stW 1) (rest := [stW 2]) (seg_Expr_Yield rfl rfl rfl ?_)
    rw [over_loop rfl rfl, over_func]
    refine wpAny_mono ((pe2 Hw sn).run [] s2 _ (upd H' Wa (.lst wr)) (fun y H3 => y = x ∧ H3 = upd H' Wa (.lst wr)) I2 ⟨_, rfl, rfl, rfl⟩) (fun u s3 ⟨y, H3, I3, ru, ey, e3⟩ kap hkap => ?_) fun _ _ z => False.elim z
    subst ey e3
    have hl3 : upd H' Wa (.lst wr) Wa = some (.lst wr) := upd_same
    have I3' : Inv (cP G mg f cd Hw sn) [] [v, some (.ref Wa), some y] (upd H' Wa (.lst wr)) s3 := I3
    have stp : Stp G sn s3 := stpO W lo hno hown I3' hl3
    obtain ⟨mp, hN, hlook⟩ := id I3.loc
    have hN : s3.heap.Ns G.F mp := hN
    have nc : ∀ {z c} {q : Prop}, (eP G f cd).cells.lookup z = some c → q := fun {z c q} e => by
      have e' : (cellsFrom (G.F + 1) (defScope s_parts_of).names []).lookup z = some c := e
      rw [nc_parts.cells] at e'
      cases e'
    have lw : mp "waiting" = some (.ref Wa) := by
      obtain ⟨u', r', l'⟩ := hlook 1 "waiting" (.ref Wa) rfl rfl (.inl rfl)
      rcases l' with ⟨_, e⟩ | ⟨_, c, e, _⟩
      · rw [e]; cases r'; rfl
      · exact nc e
    have lp : ∃ u', RelV y u' ∧ mp "part" = some u' := by
      obtain ⟨u', r', l'⟩ := hlook 2 "part" y rfl rfl (.inl rfl)
      rcases l' with ⟨_, e⟩ | ⟨_, c, e, _⟩
      · exact ⟨u', r', e⟩
      · exact nc e
    obtain ⟨fo, fes, fep, hfo, hfd, hfr⟩ := id hN
    obtain ⟨zw, its, cw, rw, eW⟩ := I3.hok Wa _ hl3
    have ego : s3.heap.get? G.a = some G.go := stp.keep G.a G.go (W.own _ ago) (fun z => by
      by_cases q : G.a = G.F
      · exact absurd q (Nat.ne_of_gt S.Fa)
      · exact hWa (hown _ z q).symm) fun z => Nat.lt_asymm (S.stk _ z).1 S.Fa
    have own3 : ∀ (h : Heap) (b : Addr), h.get? G.F = some fo → OwnF "waiting" h G.F b → b = G.F ∨ b = Wa := fun h b e q => by
      rcases q with q | ⟨m2, hm2, q⟩
      · exact .inl q
      · have h1 : h.Ns G.F mp := ⟨fo, fes, fep, e, hfd, hfr⟩
        have := h1.agree hm2 "waiting"
        rw [lw, q] at this
        cases this
        exact .inr rfl
    have wne : Wa ≠ G.F := Nat.ne_of_gt hlt
    refine ⟨y, [(G.a, G.go), (G.F, fo), (Wa, { cls := .type "list", data := .seq its.toArray cw })], nG, ?_, ru, stp, ⟨fun q hq => ?_, fun q hq => ?_, fun b hb => ?_, List.mem_cons_self⟩, fun sn' W' => ?_⟩
    · exact items 0 t y rfl dx
    · rcases List.mem_cons.mp hq with z | z
      · rw [z]; exact ⟨ego, S.goc⟩
      · rcases List.mem_cons.mp z with z | z
        · rw [z]; exact ⟨hfo, fun v q => by rw [hfd] at q; cases q⟩
        · rw [List.mem_singleton.mp z]; exact ⟨eW, fun v q => by cases q⟩
    · rcases List.mem_cons.mp hq with z | z
      · rw [z]; exact .inr (.inr rfl)
      · rcases List.mem_cons.mp z with z | z
        · rw [z]; exact .inl (.inl rfl)
        · rw [List.mem_singleton.mp z]
          rcases hnew with z | z
          · exact .inl z
          · exact .inr (.inl z)
    · rw [hx] at hb
      rcases own3 _ b hfo hb with z | z
      · rw [z]; exact List.mem_cons_of_mem _ List.mem_cons_self
      · rw [z]; exact List.mem_cons_of_mem _ (List.mem_cons_of_mem _ List.mem_cons_self)
    have eF' : sn'.heap.get? G.F = some fo := W'.own (G.F, fo) (List.mem_cons_of_mem _ List.mem_cons_self)
    have eW' : sn'.heap.get? Wa = some { cls := .type "list", data := .seq its.toArray cw } := W'.own (Wa, _) (List.mem_cons_of_mem _ (List.mem_cons_of_mem _ List.mem_cons_self))
    have ownW : OwnF G.x sn'.heap G.F Wa := .inr ⟨mp, ⟨fo, fes, fep, eF', hfd, hfr⟩, by rw [hx]; exact lw⟩
    have hn0 : ∀ c u, Hw0 G sn' c = some u → (∀ o q, u ≠ .frz o q) → False := fun c u e n => by
      by_cases l1 : c < G.F
      · obtain ⟨xs, o, rfl, _⟩ := Hw0_lt l1 e
        exact n _ _ rfl
      · by_cases l2 : c = G.F
        · rw [l2, Hw0_F] at e; cases e
        · have gt : G.F < c := Nat.lt_of_le_of_ne (Nat.le_of_not_lt l1) (Ne.symm l2)
          cases q : sn'.heap.get? c with
          | none => rw [Hw0_upn gt q] at e; cases e
          | some o => rw [Hw0_up gt q] at e; cases e; exact n _ _ rfl
    have ok' : HOk G.P G.w (upd (Hw0 G sn') Wa (.lst wr)) sn'.heap := fun b u e => by
      by_cases hb : b = Wa
      · subst hb
        rw [upd_same] at e
        cases e
        exact ⟨zw, its, cw, rw, eW'⟩
      · rw [upd_ne hb] at e
        exact (Hw0_ok W' b u e).stay (fun _ _ _ z => z) (fun c z => (hn0 c _ z fun _ _ => HO.noConfusion).elim) fun c xs z => (hn0 c _ z fun _ _ => HO.noConfusion).elim
    have I4 : Inv (cP G mg f cd (upd (Hw0 G sn') Wa (.lst wr)) sn') [] [none, some (.ref Wa), some y] (upd (Hw0 G sn') Wa (.lst wr)) sn' := by
      refine inv_wake S nc_parts W' (fun b hb => upd_ne (fun z => by rw [z] at hb; exact Nat.lt_asymm hb hlt)) (by rw [upd_ne wne.symm]; exact Hw0_F) ok' (m := mp) ⟨fo, fes, fep, eF', hfd, hfr⟩ rfl fun i z q h1 h2 => ?_
      match i, h1, h2 with
      | 0, h1, h2 => cases h2
      | 1, h1, h2 => cases h1; cases h2; exact ⟨_, rfl, lw, rfl⟩
      | 2, h1, h2 =>
        cases h1
        cases h2
        obtain ⟨u', r', e'⟩ := lp
        exact ⟨u', r', e', rfl⟩
    have up4 : ∀ a xs, SqT G.K (tupsOf G.H1) a xs → SqT G.K (upd (Hw0 G sn') Wa (.lst wr)) a xs := fun a xs z => by
      rcases Hw0_sq S W' a xs z with (z | ⟨o, z⟩) | z
      · exact (hn0 _ _ z fun _ _ => HO.noConfusion).elim
      · refine .inl (.inr ⟨o, ?_⟩)
        rw [upd_ne]
        · exact z
        · intro e
          rw [e, Hw0_up hlt eW'] at z
          cases z
      · exact .inr z
    have go : Seg G.M G.A.in1 (GRe G) (GYp G) m sn' (codeP G f cd) ((execs [stW 2] (eP G f cd)).wrap (fun f_1 => match f_1 with
            | .next | .cont => .pure (.again (codeP G f cd))
            | .brk => .pure (.done .next)
            | .ret v => .pure (.done (.ret v))) (fun e => (do noteFrame e (eP G f cd); theTreesLotGoes e : Sem Unit).wrap (fun _ => .raise e) .raise id id) id id) [.ret kk none false l (.func body (eP G f cd)) p kp] sn' := by
      refine seg_execs_cons (st := stW 2) (rest := []) (seg_wrap ?_)
      rw [over_loop rfl rfl, over_func]
      refine wpAny_mono ((ps3 (upd (Hw0 G sn') Wa (.lst wr)) sn').run [] sn' _ (upd (Hw0 G sn') Wa (.lst wr)) { nx := fun σ H5 => σ = [none, some (.ref Wa), some y] ∧ ∃ kv, DtAll G.K (tupsOf G.H1) kv (t.kids.map Tm.d) ∧ H5 Wa = some (.lst (wr ++ kv.reverse)) ∧ ∀ a xs, SqT G.K (tupsOf G.H1) a xs → SqT G.K H5 a xs, rt := fun _ _ => False } I4 ?_) (fun fl s5 h5 => ?_) fun _ _ z => False.elim z
      · have lk : t.kids.length ≤ m := by
          have := todo_kids (ts := tr) (t := t)
          rw [List.length_append, List.length_reverse] at this
          omega
        refine ⟨_, rfl, .inl ⟨rfl, _, SqL.of upd_same⟩, _, rfl, y, t, tupsOf G.H1, rfl, up4, dx, by omega, fun H5 p5 kv s5 hs5 dk => ⟨p5, kv, rfl, hs5, fun q5 hq5 => ?_⟩⟩
        have hW5 : H5 Wa = some (.lst wr) := s5 _ _ upd_same
        have hW6 : upd H5 q5 (.tup kv.reverse) Wa = some (.lst wr) := by rw [upd_ne (ne_of_none hW5 hq5)]; exact hW5
        refine ⟨Wa, q5, wr, kv.reverse, rfl, rfl, hW6, SqT.of upd_same, ?_, rfl, kv, dk, upd_same, fun a xs z => ?_⟩
        · have l1 := dr.lenD
          have l2 := dk.lenD
          have := todo_kids (ts := tr) (t := t)
          rw [List.length_append, List.length_reverse] at this
          rw [List.length_map] at l1 l2
          rw [List.length_reverse]
          have := sizeLine_eq
          omega
        · exact seqT_upd (Same.seqT (s5.trans (same_new hq5)) (up4 a xs z)) hW6
      cases fl with
      | ret _ => obtain ⟨_, _, _, _, _, z⟩ := h5; exact z.elim
      | brk => obtain ⟨_, _, _, z⟩ := h5; exact z.elim
      | cont => obtain ⟨_, _, _, z⟩ := h5; exact z.elim
      | next =>
      obtain ⟨σ5, H5, I5, rfl, kv, dk, hl5, up5⟩ := h5
      refine seg_execs_nil (seg_again rfl ?_)
      refine ih sn' _ (upd (Hw0 G sn') Wa (.lst wr)) Wa (wr ++ kv.reverse) (tr ++ t.kids.reverse) s5 H5 none (some y) W' List.mem_cons_self (fun b hb => upd_ne (fun z => by rw [z] at hb; exact Nat.lt_asymm hb hlt)) (by rw [upd_ne wne.symm]; exact Hw0_F) (fun b hb => upd_ne (fun z => hb (by rw [z]; exact ownW))) (fun b hb hne => ?_) (.inl ownW) hlt hWa I5 hl5 up5 ?_ en' (by omega) ?_ (by omega) fun j t' x' hj hd => ?_
      · rw [hx] at hb
        exact (own3 _ b eF' hb).resolve_left hne
      · rw [List.map_append, List.map_reverse]
        exact dr.append dk.reverse
      · rw [en']; exact todo_kids
      · have := items (j + 1) t' x' (by simpa using hj) hd
        rw [show G.n - m + j = G.n - (m + 1) + (j + 1) by omega]
        exact this
    exact ⟨hkap _ _ go, hkap _ _ go⟩
/-- x = [y], y a local name: the list is the next object -/
theorem set_one {X : Cx} {pins : List (Addr × Obj)} {s : Shared} {σ : L2.St} {H : Hp} {i j : Nat} {x y : Str} {v : V} {p1 p2 p3 p4 : Pos} {E : Value → Shared → Prop} (I : Inv X pins σ H s) (hN : X.N.Nodup) (hi : X.N[i]? = some x) (hx : X.env.scope.names.lookup x = some .local)
    (hj : X.N[j]? = some y) (hy : X.env.scope.names.lookup y = some .local) (hc : ∀ c, X.env.cells.lookup y ≠ some c) (hv : σ[j]? = some (some v)) (hd : (y == ("__debug__" : Str)) = false)
    (hs : swapsWith (.List [.Name y p2] p3) (some (.Name x p1)) p4.line X.env = pure false := by rfl) (he : starEach [.Name y p2] X.env = (false, eval (.Name y p2) X.env) :: starEach [] X.env := by rfl) :
    wpAny (model X.prog X.w) X.A (exec (.Assign [.Name x p1] (.List [.Name y p2] p3) p4) X.env) (fun f s' => f = .next ∧ Inv X pins (σ.set i (some (.ref s.heap.objs.size))) (upd H s.heap.objs.size (.lst [v])) s') E s := by
  obtain ⟨m, hn, hl⟩ := id I.loc
  obtain ⟨u, r, l⟩ := hl j y v hj hv (.inl hy)
  have lm : m y = some u ∧ X.env.kindOf y = some .local := by
    rcases l with ⟨hk, e⟩ | ⟨_, c, e, _⟩
    · exact ⟨e, hk⟩
    · exact absurd e (hc c)
  refine wpAny_Assign_Name ?_ hs
  refine wpAny_List_spliced ?_
  rw [he]
  show wpAny _ _ (spliced ((false, eval (.Name y p2) X.env) :: backTo p3 (starEach [] X.env))) _ _ s
  refine Calls.spliced_cons (wpAny_Name (wpAny_loadName_local I.ok.kind lm.2 hn lm.1 ?_) hd)
  refine Calls.spliced_nil ⟨small (by show 1 ≤ _; decide), ?_⟩
  have I2 : Inv X pins σ (upd H s.heap.objs.size (.lst [v])) { s with heap := s.heap.push { cls := .type "list", data := .seq [u].toArray } } :=
    I.laid (t' := s.toks) (fun b o e => Heap.get?_push_of_some _ e) (Nat.le_refl _) ⟨small (by show 1 ≤ _; decide), [u], 0, .cons r .nil, Heap.get?_push_size _ rfl⟩
  exact store_ok (v := .ref s.heap.objs.size) I2 hN hi (.inl hx) rfl (fun s2 I3 => ⟨rfl, I3⟩) (.inr hx)
theorem ok_parts {f : Addr} {fd : FuncData} (F : Fun K "parts_of" "parts_of" s_parts_of f fd) (C_children : C8.Cal P w K mg base 1 "children" (spKidsV K) []) : GFnG P w K mg base 3 f fd ["term"] (spParts K) := by
  obtain ⟨oc, od, kV, doc, pm, an, cdv, ct, osl, rfl, lk, hcd⟩ := F.ex
  refine gfnG_of "waiting" lk hcd nc_parts rfl (N := ["term", "waiting", "part"]) (by decide +kernel) (fun y hy => by rw [List.mem_singleton.mp hy]; rfl) (by decide +kernel) (fun vs H n it h => by obtain ⟨v, t, rfl, _⟩ := h; rfl) fun G vs own sn eP' ew eK eb ex S hr hsp W ago hno I => ?_
  subst eP' ew eK eb
  obtain ⟨v, t, rfl, dv, hs, en, eit⟩ := hsp
  refine seg_func ?_
  refine seg_execs_cons (st := stP 0) (rest := [stP 1]) (seg_wrap ?_)
  rw [over_func]
  have nc : ∀ {z c} {q : Prop}, (eP G f cdv).cells.lookup z = some c → q := fun {z c q} e => by
    have e' : (cellsFrom (G.F + 1) (defScope s_parts_of).names []).lookup z = some c := e
    rw [nc_parts.cells] at e'
    cases e'
  have st0 : wpAny (model G.P G.w) (cP G mg f cdv (Hw0 G sn) sn).A (exec (stP 0) (cP G mg f cdv (Hw0 G sn) sn).env) _ (fun _ _ => False) sn := set_one (X := cP G mg f cdv (Hw0 G sn) sn) (i := 1) (j := 0) (v := v) (x := "waiting") (y := "term") I (by show (["term", "waiting", "part"] : List Str).Nodup; decide +kernel) rfl rfl rfl rfl (fun c e => nc e) rfl (by decide)
  refine wpAny_mono st0 (fun fl s2 ⟨efl, I2⟩ => ?_) fun _ _ z => False.elim z
  subst efl
  refine seg_execs_cons (st := stP 1) (rest := []) (seg_While fun p => ?_)
  have szF : G.F < sn.heap.objs.size := I.lt
  have sza : G.a < sn.heap.objs.size := Heap.lt_size (W.own _ ago)
  have nd : (Hw0 G sn) sn.heap.objs.size = none := I.hok.fresh (Nat.le_refl _)
  refine seg_loop S ex C_children (hr.mono (by decide)) (fun sn' s' stp => ?_) G.n sn own (Hw0 G sn) sn.heap.objs.size [v] [t] s2 _ (some v) none W ago (fun _ _ => rfl) Hw0_F (fun _ _ => rfl) (fun b hb hne => ?_) (.inr (Nat.le_refl _)) szF (Nat.ne_of_gt sza) I2 upd_same (fun a xs z => Same.seqT (same_new nd) (Hw0_sq S W a xs z)) (.cons (Dt.mono (fun _ _ z => sq_tups z) _ _ dv) .nil) ?_ (by omega) ?_ (Nat.le_refl _) fun j t' x' hj hd => ?_
  · exact seg_end (.ok (.ret .none)) (.inl ⟨.inl rfl, rfl, stp⟩)
  · exact absurd ⟨by rw [← ex]; exact hb, hne⟩ (hno b)
  · rw [todo_one, Tm.parts_len]; exact en
  · have : 1 ≤ t.size := by rw [Tm.size_eq]; omega
    show 1 ≤ G.n
    omega
  · rw [todo_one] at hj
    rw [Nat.sub_self, Nat.zero_add, eit]
    exact ⟨t', hj, hd⟩
end
end PK
namespace PK
open PySem L2
/-! parts_of, run to its end -/
def spPg (K : PySem.W.Frag) : SpG := fun vs H cont _ => ∃ (v : V) (t : Tm), vs = [v] ∧ Dt K H v t.d ∧ t.size ≤ 1000000 ∧ ∀ (H' : Hp) (ws : List V), Same H H' → DtAll K H' ws (t.parts.map Tm.d) → cont ws H'
section
variable {P : Program} {w : World} {K : PySem.W.Frag} {mg : Str → Option Value} {base : Heap} {aF : Addr}
theorem sc_parts_of : GScope ["term", "waiting", "part"] ["term"] (defScope s_parts_of) := ⟨rfl, rfl, rfl, by decide +kernel, rfl, by decide +kernel, by decide +kernel⟩
theorem ok_partsG {f : Addr} {fd : FuncData} (F : Fun K "parts_of" "parts_of" s_parts_of f fd) (C_children : C8.Cal P w K mg base 1 "children" (spKids K) []) : GFn P w K mg base 2 f fd ["term"] (spPg K) := by
  obtain ⟨oc, od, kV, doc, pm, an, cdv, ct, osl, rfl, lk, hcd⟩ := F.ex
  refine gfn_of lk hcd sc_parts_of (fun vs H Q E h => by obtain ⟨_, _, rfl, _⟩ := h; rfl) fun A outer s H vs Q E pn hr h => ?_
  obtain ⟨v, t, rfl, hv, hs, q⟩ := h
  refine ⟨_, (gss_cons (gs_ps (ps_set (i := 1) sc_parts_of.nd rfl (Or.inl rfl) (pe_lst (pa_cons (pv 0) pa_nil))))
    (gss_cons (gs_while (passes_of rfl) (pt_truth (pv 1) (by intro _; rfl)) (gss_cons (gs_ps (ps_set (i := 2) sc_parts_of.nd rfl (Or.inl rfl) (pe_bm0 PySem.F.plainAttrs_list PySem.F.slot_list_pop PySem.F.type_list_pop mt_pop (pv 1))))
    (gss_cons (gs_yield (pv 2))
    (gss_cons (gs_ps (ps_expr (pe_bm PySem.F.plainAttrs_list PySem.F.slot_list_extend PySem.F.type_list_extend PKZ.mt_extendT (pv 1) (pa_cons (PKZ.pe_revT (C8.pe_c C_children hr (by decide) rfl (pa_cons (pv 2) pa_nil))) pa_nil))))
    gss_nil))))
    gss_nil)), ?_⟩
  refine ⟨_, rfl, small (by show 1 ≤ _; decide), fun Wa hW => ?_⟩
  have hv0 := hv.same (same_new (o := .lst [v]) hW)
  refine ⟨fun m ys σ H' => ∃ (ts : List Tm) (xs : List V) (o : Option V), m = (todo ts).length ∧ σ = [some v, some (.ref Wa), o] ∧ Same H H' ∧ H' Wa = some (.lst xs) ∧ DtAll K H' xs (ts.map Tm.d) ∧ DtAll K H' ys ((t.parts.take (t.parts.length - (todo ts).length)).map Tm.d) ∧ todo ts = t.parts.drop (t.parts.length - (todo ts).length), ⟨_, [t], [v], none, rfl, rfl, same_new hW, upd_same, .cons hv0 .nil, ?_, ?_⟩, ?_⟩
  · rw [todo_one, Nat.sub_self]; exact .nil
  · rw [todo_one, Nat.sub_self]; rfl
  rintro m ys σ H1 ⟨ts, xs, o, rfl, rfl, s, hW1, dx, dy, etd⟩
  have lp := Tm.parts_len t
  have lle : (todo ts).length ≤ t.parts.length := by
    have := congrArg List.length etd
    rw [List.length_drop] at this
    omega
  refine ⟨_, rfl, !xs.isEmpty, .inl ⟨xs, SqL.of hW1, rfl⟩, ?_⟩
  rcases List.eq_nil_or_concat ts with rfl | ⟨r, k, rfl⟩
  · cases dx
    rw [todo_nil, List.length_nil, Nat.sub_zero, List.take_length] at dy
    exact iteF (q H1 ys s dy)
  · rw [List.concat_eq_append] at dx dy etd lle ⊢
    rw [List.map_append] at dx
    obtain ⟨us, zs, rfl, d1, d2⟩ := DtAll.splitR dx
    cases d2 with
    | cons dz dn =>
    cases dn
    rename_i z
    have es := todo_snoc r k
    have hk := todo_kids (ts := r) (t := k)
    rw [show (!(us ++ [z]).isEmpty) = true by simp]
    refine iteT ⟨fun ys' σ' H' => ∃ m', m' < (todo (r ++ [k])).length ∧ ∃ (ts : List Tm) (xs : List V) (o : Option V), m' = (todo ts).length ∧ σ' = [some v, some (.ref Wa), o] ∧ Same H H' ∧ H' Wa = some (.lst xs) ∧ DtAll K H' xs (ts.map Tm.d) ∧ DtAll K H' ys' ((t.parts.take (t.parts.length - (todo ts).length)).map Tm.d) ∧ todo ts = t.parts.drop (t.parts.length - (todo ts).length), fun _ _ _ h => h, ?_⟩
    refine ⟨_, rfl, .inl ⟨rfl, _, SqL.of hW1⟩, Wa, _, z, rfl, rfl, hW1, by rw [List.length_append]; simp, ?_⟩
    rw [List.dropLast_concat]
    have l1 : (todo (r ++ [k])).length = (todo (r ++ k.kids.reverse)).length + 1 := by rw [es]; rfl
    obtain ⟨j, ej⟩ : ∃ j, t.parts.length - (todo (r ++ [k])).length = j := ⟨_, rfl⟩
    rw [ej] at etd dy
    have ej2 : t.parts.length - (todo (r ++ k.kids.reverse)).length = j + 1 := by omega
    have hj : j < t.parts.length := by omega
    have gk : t.parts[j]? = some k := by
      have : (t.parts.drop j)[0]? = some k := by rw [← etd, es]; rfl
      rw [List.getElem?_drop] at this
      exact this
    have etd2 : todo (r ++ k.kids.reverse) = t.parts.drop (j + 1) := by
      have := congrArg List.tail etd
      rw [es, List.tail_drop] at this
      exact this
    have hWH : Same H (upd H1 Wa (.lst us)) := Same.upd s hW
    have lys : ys.length = j := by rw [dy.lenD, List.length_map, List.length_take]; omega
    have dz1 : Dt K (upd H1 Wa (.lst us)) z k.d := dz.updL hW1
    refine ⟨smallL (by omega), _, rfl, ?_⟩
    have lkk : k.kids.length ≤ 1000000 := by
      rw [List.length_append, List.length_reverse] at hk
      omega
    refine ⟨_, rfl, .inl ⟨rfl, _, SqL.of (upd_same (H := H1) (a := Wa) (o := .lst us))⟩, _, rfl, z, k, rfl, dz1, by omega, fun H2 p2 ws2 s2 hp2 dw2 => ⟨p2, ws2, rfl, hp2, fun p3 hp3 => ?_⟩⟩
    have s3 : Same (upd H1 Wa (.lst us)) (upd H2 p3 (.tup ws2.reverse)) := Same.trans s2 (same_new hp3)
    have hW3 := s3 _ _ (upd_same (H := H1) (a := Wa) (o := .lst us))
    have lw2 := dw2.lenD
    rw [List.length_map] at lw2
    have lus := d1.lenD
    rw [List.length_map] at lus
    have lrk := todo_kids (ts := r) (t := k)
    rw [List.length_append, List.length_reverse] at lrk
    refine ⟨Wa, p3, us, _, rfl, rfl, hW3, SqT.of upd_same, small (by rw [List.length_reverse]; omega), ?_⟩
    refine ⟨_, by omega, r ++ k.kids.reverse, _, _, rfl, rfl, Same.upd (hWH.trans s3) hW, upd_same, ?_, ?_, ?_⟩
    · rw [List.map_append]
      exact (((d1.upd hW1).same s3).append (by rw [List.map_reverse]; exact dw2.rev.same (same_new hp3))).upd hW3
    · rw [ej2, List.take_add_one, gk, List.map_append]
      exact (((dy.upd hW1).same s3).append (.cons (dz1.same s3) .nil)).upd hW3
    · rw [ej2]; exact etd2
end
end PK
namespace PK
open PySem L2
/-! symbolic terms -/
abbrev SOk (x : Str) : Prop := PyData.strOk x = true
inductive Sy where
  | sum (ps : List (Int × Int)) (n : Int)
  | name (s : Str)
  | addr (n : Int)
  | unk (n : Int)
  | node (c : Str) (ts : List Sy)
  | map (es : List (Str × Sy))
def prD (p : Int × Int) : PyData := .tuple [.int p.1, .int p.2]
def nmD (w : Str) : PyData := .tuple [.str "name", .str w]
mutual
def Sy.d : Sy → PyData
  | .sum ps n => .tuple [.str "sum", .tuple (ps.map prD), .int n]
  | .name s => .tuple [.str "name", .str s]
  | .addr n => .tuple [.str "addr", .int n]
  | .unk n => .tuple [.str "unknown", .int n]
  | .node c ts => .tuple [.str "node", .str c, .tuple (Sy.ds ts)]
  | .map es => .tuple [.str "map", .none, .tuple (Sy.es es)]
def Sy.ds : List Sy → List PyData
  | [] => []
  | t :: r => t.d :: Sy.ds r
def Sy.es : List (Str × Sy) → List PyData
  | [] => []
  | (w, t) :: r => .tuple [nmD w, t.d] :: Sy.es r
end
theorem Sy.ds_map : ∀ ts : List Sy, Sy.ds ts = ts.map Sy.d
  | [] => by unfold Sy.ds; rfl
  | t :: r => by unfold Sy.ds; rw [Sy.ds_map r]; rfl
def Sy.ent (e : Str × Sy) : PyData := .tuple [nmD e.1, e.2.d]
theorem Sy.es_map : ∀ es : List (Str × Sy), Sy.es es = es.map Sy.ent
  | [] => by unfold Sy.es; rfl
  | (w, t) :: r => by unfold Sy.es; rw [Sy.es_map r]; rfl
def Sy.kids : Sy → List Sy
  | .node _ ts => ts
  | .map es => es.map Prod.snd
  | _ => []
theorem Sy.kid_lt {t k : Sy} (h : k ∈ t.kids) : sizeOf k < sizeOf t := by
  cases t with
  | node c ts => have := List.sizeOf_lt_of_mem (as := ts) h; simp only [Sy.node.sizeOf_spec]; omega
  | map es =>
    obtain ⟨e, he, rfl⟩ := List.mem_map.mp h
    have := List.sizeOf_lt_of_mem he
    have e2 : sizeOf e = 1 + sizeOf e.1 + sizeOf e.2 := by cases e; rfl
    simp only [Sy.map.sizeOf_spec]
    omega
  | sum _ _ => cases h
  | name _ => cases h
  | addr _ => cases h
  | unk _ => cases h
theorem Sy.ind {p : Sy → Prop} (h : ∀ t : Sy, (∀ k ∈ t.kids, p k) → p t) (t : Sy) : p t := by
  have : ∀ n (t : Sy), sizeOf t ≤ n → p t := by
    intro n
    induction n with
    | zero => intro t ht; cases t <;> simp at ht
    | succ n ih => exact fun t ht => h t fun k hk => ih k (by have := Sy.kid_lt hk; omega)
  exact this _ t (Nat.le_refl _)
def Sy.ht (t : Sy) : Nat := 1 + (t.kids.attach.map fun k => k.1.ht).foldr max 0
termination_by sizeOf t
decreasing_by exact Sy.kid_lt k.2
theorem Sy.ht_eq (t : Sy) : t.ht = 1 + (t.kids.map Sy.ht).foldr max 0 := by
  rw [Sy.ht, List.attach_map_val (f := Sy.ht)]
theorem Sy.ht_kid {t k : Sy} (h : k ∈ t.kids) : k.ht + 1 ≤ t.ht := by
  have := le_fmax (List.mem_map.mpr ⟨k, h, rfl⟩ : k.ht ∈ t.kids.map Sy.ht)
  rw [Sy.ht_eq t]; omega
theorem Sy.ht_le {t : Sy} {n : Nat} (h : ∀ k ∈ t.kids, k.ht ≤ n) : t.ht ≤ n + 1 := by
  rw [Sy.ht_eq t]
  have := fmax_le (n := n) (l := t.kids.map Sy.ht) fun x hx => by
    obtain ⟨k, hk, rfl⟩ := List.mem_map.mp hx
    exact h k hk
  omega
theorem Sy.ht_pos (t : Sy) : 1 ≤ t.ht := by rw [Sy.ht_eq t]; omega
/-- what a part weighs -/
def Sy.wt : Sy → Nat
  | .map es => 1 + es.length
  | _ => 1
def Sy.size (t : Sy) : Nat := t.wt + (t.kids.attach.map fun k => k.1.size).sum
termination_by sizeOf t
decreasing_by exact Sy.kid_lt k.2
theorem Sy.size_eq (t : Sy) : t.size = t.wt + (t.kids.map Sy.size).sum := by
  rw [Sy.size, List.attach_map_val (f := Sy.size)]
theorem Sy.wt_pos (t : Sy) : 1 ≤ t.wt := by cases t <;> first | exact Nat.le_refl 1 | exact Nat.le_add_right 1 _
theorem Sy.size_pos (t : Sy) : 1 ≤ t.size := by rw [Sy.size_eq t]; have := t.wt_pos; omega
/-- the unknowns that stand in a part itself, in all of it -/
def Sy.own : Sy → List Int
  | .unk n => [n]
  | .sum ps _ => ps.map Prod.fst
  | _ => []
def Sy.fnd (t : Sy) : List Int := t.own ++ (t.kids.attach.map fun k => k.1.fnd).flatten
termination_by sizeOf t
decreasing_by exact Sy.kid_lt k.2
theorem Sy.fnd_eq (t : Sy) : t.fnd = t.own ++ (t.kids.map Sy.fnd).flatten := by
  rw [Sy.fnd, List.attach_map_val (f := Sy.fnd)]
/-- a property of all parts -/
inductive AlS (p : Sy → Prop) : Sy → Prop
  | mk {t : Sy} : p t → (∀ k ∈ t.kids, AlS p k) → AlS p t
theorem AlS.at_ {p : Sy → Prop} {t : Sy} (h : AlS p t) : p t := by cases h; assumption
theorem AlS.kid {p : Sy → Prop} {t k : Sy} (h : AlS p t) (hk : k ∈ t.kids) : AlS p k := by cases h with | mk _ h => exact h k hk
/-- a drawn part -/
def sN : Sy → Prop
  | .sum ps _ => ps.length ≤ 3 ∧ (∀ p ∈ ps, 0 ≤ p.1 ∧ p.1 ≤ 40) ∧ (ps.map Prod.fst).Nodup
  | .name s => SOk s
  | .addr _ => True
  | .unk n => 0 ≤ n ∧ n ≤ 40
  | .node c ts => SOk c ∧ ts.length ≤ 3
  | .map es => es.length ≤ 10 ∧ ∀ e ∈ es, SOk e.1
abbrev SN : Sy → Prop := AlS sN
theorem SN.len {t : Sy} (h : SN t) : t.kids.length ≤ 10 := by
  have := h.at_
  cases t with
  | node c ts => have := this.2; show ts.length ≤ 10; omega
  | map es => show (es.map Prod.snd).length ≤ 10; rw [List.length_map]; exact this.1
  | _ => exact Nat.zero_le _
theorem lay_all : ∀ {ds : List PyData}, (∀ d ∈ ds, d.canLay0 = true) → PyData.canLayAll0 ds = true
  | [], _ => rfl
  | d :: r, h => by
    show (d.canLay0 && PyData.canLayAll0 r) = true
    rw [h d List.mem_cons_self, lay_all fun x hx => h x (List.mem_cons_of_mem _ hx)]; rfl
theorem lay_tup {ds : List PyData} (h : ∀ d ∈ ds, d.canLay0 = true) : (PyData.tuple ds).canLay0 = true := lay_all h
theorem lay2 {a b : PyData} (ha : a.canLay0 = true) (hb : b.canLay0 = true) : (PyData.tuple [a, b]).canLay0 = true := lay_tup fun d hd => by
  rcases List.mem_cons.mp hd with rfl | hd
  · exact ha
  · rw [List.mem_singleton.mp hd]; exact hb
theorem lay3 {a b c : PyData} (ha : a.canLay0 = true) (hb : b.canLay0 = true) (hc : c.canLay0 = true) : (PyData.tuple [a, b, c]).canLay0 = true := lay_tup fun d hd => by
  rcases List.mem_cons.mp hd with rfl | hd
  · exact ha
  rcases List.mem_cons.mp hd with rfl | hd
  · exact hb
  · rw [List.mem_singleton.mp hd]; exact hc
theorem wSok : ∀ x ∈ (["sum", "name", "addr", "unknown", "node", "map"] : List Str), SOk x := by decide +kernel
theorem SN.lay {t : Sy} (h : SN t) : t.d.canLay0 = true := by
  induction t using Sy.ind with
  | h t ih =>
    have hl := h.at_
    cases t with
    | sum ps n =>
      unfold Sy.d
      refine lay3 (wSok "sum" (by decide)) (lay_tup fun d hd => ?_) rfl
      obtain ⟨p, _, rfl⟩ := List.mem_map.mp hd
      exact lay2 rfl rfl
    | name s => unfold Sy.d; exact lay2 (wSok "name" (by decide)) hl
    | addr n => unfold Sy.d; exact lay2 (wSok "addr" (by decide)) rfl
    | unk n => unfold Sy.d; exact lay2 (wSok "unknown" (by decide)) rfl
    | node c ts =>
      unfold Sy.d
      rw [Sy.ds_map]
      refine lay3 (wSok "node" (by decide)) hl.1 (lay_tup fun d hd => ?_)
      obtain ⟨k, hk, rfl⟩ := List.mem_map.mp hd
      exact ih k hk (h.kid hk)
    | map es =>
      unfold Sy.d
      rw [Sy.es_map]
      refine lay3 (wSok "map" (by decide)) rfl (lay_tup fun d hd => ?_)
      obtain ⟨e, he, rfl⟩ := List.mem_map.mp hd
      have hk : e.2 ∈ (Sy.map es).kids := List.mem_map.mpr ⟨e, he, rfl⟩
      exact lay2 (lay2 (wSok "name" (by decide)) (hl.2 e he)) (ih e.2 hk (h.kid hk))
theorem depth_all : ∀ {ds : List PyData} {n : Nat}, (∀ d ∈ ds, d.depth ≤ n) → PyData.depthAll ds ≤ n
  | [], _, _ => Nat.zero_le _
  | d :: r, n, h => by
    have h1 := h d List.mem_cons_self
    have h2 := depth_all (ds := r) (n := n) fun x hx => h x (List.mem_cons_of_mem _ hx)
    show max _ _ ≤ n
    omega
theorem Sy.depth (t : Sy) : t.d.depth ≤ 3 * t.ht := by
  induction t using Sy.ind with
  | h t ih =>
    have hpos := t.ht_pos
    cases t with
    | sum ps n =>
      unfold Sy.d
      have : PyData.depthAll (ps.map prD) ≤ 1 := depth_all fun d hd => by
        obtain ⟨p, _, rfl⟩ := List.mem_map.mp hd
        exact Nat.le_refl _
      show max 0 (max (PyData.depthAll (ps.map prD) + 1) (max 0 0)) + 1 ≤ _
      omega
    | node c ts =>
      unfold Sy.d
      rw [Sy.ds_map]
      have : PyData.depthAll (ts.map Sy.d) ≤ 3 * (Sy.node c ts).ht - 3 := depth_all fun d hd => by
        obtain ⟨k, hk, rfl⟩ := List.mem_map.mp hd
        have h1 := ih k hk
        have h2 := Sy.ht_kid (t := .node c ts) hk
        omega
      show max 0 (max 0 (max (PyData.depthAll (ts.map Sy.d) + 1) 0)) + 1 ≤ _
      omega
    | map es =>
      unfold Sy.d
      rw [Sy.es_map]
      have : PyData.depthAll (es.map Sy.ent) ≤ 3 * (Sy.map es).ht - 2 := depth_all fun d hd => by
        obtain ⟨e, he, rfl⟩ := List.mem_map.mp hd
        have hk : e.2 ∈ (Sy.map es).kids := List.mem_map.mpr ⟨e, he, rfl⟩
        have h1 := ih e.2 hk
        have h2 := Sy.ht_kid hk
        have := e.2.ht_pos
        unfold Sy.ent
        show max 1 (max e.2.d.depth 0) + 1 ≤ _
        omega
      show max 0 (max 0 (max (PyData.depthAll (es.map Sy.ent) + 1) 0)) + 1 ≤ _
      omega
    | name n => unfold Sy.d; show max 0 (max 0 0) + 1 ≤ _; omega
    | addr n => unfold Sy.d; show max 0 (max 0 0) + 1 ≤ _; omega
    | unk n => unfold Sy.d; show max 0 (max 0 0) + 1 ≤ _; omega
/-! what a term becomes -/
abbrev Gt := List (Str × Sy)
theorem lookA_cons {α β : Type} [DecidableEq α] (k : α) (v : β) (r : List (α × β)) (s : α) : lookA ((k, v) :: r) s = match lookA r s with | some t => some t | none => if k = s then some v else none := rfl
theorem lookA_snoc {β : Type} : ∀ (l : List (Str × β)) (k : Str) (v : β) (s : Str), lookA (l ++ [(k, v)]) s = if k = s then some v else lookA l s
  | [], k, v, s => by rw [List.nil_append, lookA_cons]; rfl
  | (j, u) :: l, k, v, s => by
    rw [List.cons_append, lookA_cons, lookA_snoc l k v s, lookA_cons]
    by_cases h : k = s
    · simp [h]
    · simp [h]
def due (G : Gt) (t : Tm) : Sy := match t with
  | .int n => .sum [] n
  | .name s => .name s
  | .addr n => .addr n
  | .var s => (lookA G s).getD (.name s)
  | .node c ts => .node c (ts.attach.map fun k => due G k.1)
  | .map es => .map (es.attach.map fun e => (e.1.1, due G e.1.2))
  | .form _ _ => .name ""
termination_by sizeOf t
decreasing_by
  · exact Tm.kid_lt (t := .node c ts) k.2
  · exact Tm.kid_lt (t := .map es) (List.mem_map.mpr ⟨e.1, e.2, rfl⟩)
theorem due_node (G : Gt) (c : Str) (ts : List Tm) : due G (.node c ts) = .node c (ts.map (due G)) := by
  rw [due, List.attach_map_val (f := due G)]
theorem due_map (G : Gt) (es : List (Str × Tm)) : due G (.map es) = .map (es.map fun e => (e.1, due G e.2)) := by
  rw [due, List.attach_map_val (f := fun e : Str × Tm => (e.1, due G e.2))]
/-- a drawn term -/
def gN (G : Gt) : Tm → Prop
  | .int _ => True
  | .name _ => True
  | .addr _ => True
  | .var s => ∃ t, lookA G s = some t
  | .node _ ts => True ∧ ts.length ≤ 10
  | .map es => es.length ≤ 10 ∧ ∀ e ∈ es, SOk e.1
  | .form _ _ => False
abbrev GN (G : Gt) : Tm → Prop := Al (gN G)
/-- a drawn table: its terms have no parts -/
def GOk (G : Gt) : Prop := ∀ s t, lookA G s = some t → SN t ∧ t.kids = []
end PK
namespace PK
open PySem L2
/-! the stack of the walk that parts_of does -/
theorem cut_drop (xs : List V) (i : Nat) (h : i ≤ xs.length) : cutV xs (some (i : Int)) none = xs.drop i := by
  unfold cutV
  have e : HT.sIx xs.length 0 (some (i : Int)) = i := by
    rw [HT.sIx_nat]; omega
  rw [e, HT.sIx_none, List.take_of_length_le (by rw [List.length_drop]; omega)]
structure OffL (f : Addr) (H H' : Hp) : Prop where
  a : ∃ k, H f = some (.lst k)
  keep : ∀ b o, b ≠ f → H b = some o → H' b = some o
section
variable {f : Addr} {K : PySem.W.Frag} {H H1 H2 : Hp}
theorem OffL.seqT {a : Addr} {xs : List V} (x : OffL f H H1) (h : SqT K H a xs) : SqT K H1 a xs := by
  obtain ⟨k, hk⟩ := x.a
  have nl : ∀ {o : HO}, H a = some o → (∀ y, o ≠ .lst y) → a ≠ f := fun e d z => by
    rw [z, hk] at e; cases e; exact d _ rfl
  rcases h with (h | ⟨o, h⟩) | h
  · exact .inl (.inl (x.keep _ _ (nl h (fun _ => HO.noConfusion)) h))
  · exact .inl (.inr ⟨o, x.keep _ _ (nl h (fun _ => HO.noConfusion)) h⟩)
  · exact .inr h
end
/-- the stack of the walk that parts_of does -/
def popS (ts : List Tm) : List Tm := ts.dropLast ++ (match ts.getLast? with | some k => k.kids.reverse | none => [])
def stk (t : Tm) : Nat → List Tm
  | 0 => [t]
  | n + 1 => popS (stk t n)
theorem popS_snoc (r : List Tm) (k : Tm) : popS (r ++ [k]) = r ++ k.kids.reverse := by
  unfold popS
  rw [List.dropLast_concat, List.getLast?_append]; rfl
theorem stk_todo (t : Tm) : ∀ j, j ≤ t.parts.length → todo (stk t j) = t.parts.drop j
  | 0, _ => by rw [show stk t 0 = [t] from rfl, todo_one, List.drop_zero]
  | j + 1, h => by
    have ih := stk_todo t j (by omega)
    show todo (popS (stk t j)) = _
    rcases List.eq_nil_or_concat (stk t j) with e | ⟨r, k, e⟩
    · rw [e, todo_nil] at ih
      have := congrArg List.length ih
      rw [List.length_drop, List.length_nil] at this
      omega
    · rw [List.concat_eq_append] at e
      rw [e, popS_snoc]
      rw [e, todo_snoc] at ih
      have := congrArg List.tail ih
      rw [List.tail_drop] at this
      exact this
theorem stk_at (t : Tm) {j : Nat} {k : Tm} (h : t.parts[j]? = some k) : ∃ r, stk t j = r ++ [k] ∧ stk t (j + 1) = r ++ k.kids.reverse := by
  obtain ⟨hj, e⟩ := List.getElem?_eq_some_iff.mp h
  have ih := stk_todo t j (by omega)
  rcases List.eq_nil_or_concat (stk t j) with e2 | ⟨r, k', e2⟩
  · rw [e2, todo_nil] at ih
    have := congrArg List.length ih
    rw [List.length_drop, List.length_nil] at this
    omega
  · rw [List.concat_eq_append] at e2
    rw [e2, todo_snoc, List.drop_eq_getElem_cons hj, e] at ih
    obtain rfl : k' = k := (List.cons.inj ih).1
    exact ⟨r, e2, by show popS (stk t j) = _; rw [e2, popS_snoc]⟩
theorem stk_end (t : Tm) : stk t t.parts.length = [] := by
  have := stk_todo t t.parts.length (Nat.le_refl _)
  rw [List.drop_length] at this
  rcases List.eq_nil_or_concat (stk t t.parts.length) with e | ⟨r, k, e⟩
  · exact e
  · rw [List.concat_eq_append] at e
    rw [e, todo_snoc] at this
    cases this
theorem stk_len (t : Tm) {j : Nat} (h : j ≤ t.parts.length) : (stk t j).length ≤ t.parts.length := by
  have h1 := stk_todo t j h
  have h2 : ∀ ts : List Tm, ts.length ≤ (todo ts).length := fun ts => by
    unfold todo
    rw [List.length_flatten, List.map_map]
    have : ∀ l : List Tm, l.length ≤ (l.map (List.length ∘ Tm.parts)).sum := fun l => by
      induction l with
      | nil => exact Nat.zero_le _
      | cons a l ih =>
        rw [List.map_cons, List.sum_cons, List.length_cons]
        have : 1 ≤ (List.length ∘ Tm.parts) a := by
          show 1 ≤ a.parts.length
          rw [Tm.parts_len]; exact a.size_pos
        omega
    have := this ts.reverse
    rw [List.length_reverse] at this
    exact this
  have := h2 (stk t j)
  rw [h1, List.length_drop] at this
  omega
theorem al_parts {p : Tm → Prop} {t : Tm} : ∀ {x : Tm}, Al p t → x ∈ t.parts → Al p x := by
  induction t using Tm.ind with
  | h t ih =>
    intro x h hx
    rw [Tm.parts_eq] at hx
    rcases List.mem_cons.mp hx with rfl | hx
    · exact h
    · obtain ⟨l, hl, hkl⟩ := List.mem_flatten.mp hx
      obtain ⟨z, hz, rfl⟩ := List.mem_map.mp hl
      exact ih z hz (h.kid hz) hkl
theorem GN.len {G : Gt} {t : Tm} (h : GN G t) : t.kids.length ≤ 10 := by
  have := h.at_
  cases t with
  | node c ts => have := this.2; show ts.length ≤ 10; omega
  | map es => show (es.map Prod.snd).length ≤ 10; rw [List.length_map]; exact this.1
  | form f ts => exact this.elim
  | _ => exact Nat.zero_le _
end PK
namespace PK
open PySem L2
/-! the program: what a term becomes -/
theorem eqU {k : Nat} {A : Around} (hr : Room k A) : A.units + 190 < cLine := by have := hr.un; omega
def BindS (K : PySem.W.Frag) (H : Hp) (kvs : List (Key × V)) (G : Gt) : Prop := ∀ s t, lookA G s = some t → ∃ v, valV kvs (Sum.inr s) = some v ∧ Dt K H v t.d
theorem BindS.same {K : PySem.W.Frag} {H H' : Hp} {kvs : List (Key × V)} {G : Gt} (h : BindS K H kvs G) (s : Same H H') : BindS K H' kvs G := fun w t e => by
  obtain ⟨v, h1, h2⟩ := h w t e
  exact ⟨v, h1, h2.same s⟩
theorem BindS.mono {K : PySem.W.Frag} {H H' : Hp} {kvs : List (Key × V)} {G : Gt} (h : BindS K H kvs G) (k : ∀ v d, Dt K H v d → Dt K H' v d) : BindS K H' kvs G := fun w t e => by
  obtain ⟨v, h1, h2⟩ := h w t e
  exact ⟨v, h1, k _ _ h2⟩
def spInteger (K : PySem.W.Frag) : Sp := fun vs H Q _ => ∃ n : Int, vs = [.int n] ∧ ∀ (H' : Hp) (v : V), Same H H' → Dt K H' v (Sy.sum [] n).d → Q v H'
def spSyp (K : PySem.W.Frag) : Sp := fun vs H Q _ => ∃ (pw : V) (t : Tm) (il ub : Addr) (iv : List V) (kvs : List (Key × V)) (G : Gt), vs = [pw, .ref il, .ref ub] ∧ Dt K H pw t.d ∧ H il = some (.lst iv) ∧ DtAll K H iv (t.kids.map fun k => (due G k).d) ∧ H ub = some (.dK kvs) ∧ BindS K H kvs G ∧ gN G t ∧
  ∀ (H' : Hp) (v : V), Same H H' → Dt K H' v (due G t).d → Q v H'
def spSym (K : PySem.W.Frag) : Sp := fun vs H Q _ => ∃ (v : V) (t : Tm) (ub : Addr) (kvs : List (Key × V)) (G : Gt), vs = [v, .ref ub] ∧ Dt K H v t.d ∧ H ub = some (.dK kvs) ∧ BindS K H kvs G ∧ GN G t ∧ t.size ≤ 1000000 ∧
  ∀ (H' : Hp) (v : V), Same H H' → Dt K H' v (due G t).d → Q v H'
section
variable {P : Program} {w : World} {K : PySem.W.Frag} {mg : Str → Option Value} {base : Heap} {aF : Addr}
abbrev s_integer : Stmt := topS 29
theorem sc_integer : FnScope ["n"] ["n"] (defScope s_integer) := ⟨rfl, rfl, rfl, by decide +kernel, rfl, by decide +kernel, by decide +kernel⟩
-- slots: 0:n
abbrev s_symbolic_part : Stmt := topS 32
theorem sc_symbolic_part : FnScope ["part", "inner", "unknowns", "head", "worth", "entry", "word", "_"] ["part", "inner", "unknowns"] (defScope s_symbolic_part) := ⟨rfl, rfl, rfl, by decide +kernel, rfl, by decide +kernel, by decide +kernel⟩
-- slots: 0:part 1:inner 2:unknowns 3:head 4:worth 5:entry(comp) 6:word(comp) 7:_(comp)
abbrev s_symbolic : Stmt := topS 31
theorem sc_symbolic : FnScope ["term", "unknowns", "made", "part", "start", "inner"] ["term", "unknowns"] (defScope s_symbolic) := ⟨rfl, rfl, rfl, by decide +kernel, rfl, by decide +kernel, by decide +kernel⟩
-- slots: 0:term 1:unknowns 2:made 3:part 4:start 5:inner
theorem ok_integer {f : Addr} {fd : FuncData} (F : Fun K "integer" "integer" s_integer f fd) : FnOk P w K mg base CX0 1 f fd ["n"] (spInteger K) := by
  refine F.ok sc_integer (fun vs H Q E h => ?_) (fun cdv A outer s H vs Q E hr h => ?_)
  · obtain ⟨_, rfl, _⟩ := h
    rfl
  obtain ⟨n, rfl, q⟩ := h
  refine ⟨_, (pss_one (ps_ret (pe_tup (pa_cons pe_str (pa_cons (pe_tup pa_nil) (pa_cons (pv 0) pa_nil)))))), ?_⟩
  refine ⟨small (by show 0 ≤ _; decide), fun p1 hp1 => ⟨_, rfl, small (by show 3 ≤ _; decide), fun p2 hp2 => q _ _ ((same_new hp1).trans (same_new hp2)) ?_⟩⟩
  unfold Sy.d
  exact Dt.mk3 hp2 (.str _) (.tup (SqT.of upd_same) .nil) (.int _)
theorem ok_syp {f : Addr} {fd : FuncData} (F : Fun K "_symbolic_part" "_symbolic_part" s_symbolic_part f fd) (T : TxtZ K mg aF) (C_integer : C8.Cal P w K mg base 1 "integer" (spInteger K) []) : FnOk P w K mg base CX0 2 f fd ["part", "inner", "unknowns"] (spSyp K) := by
  refine F.ok sc_symbolic_part (fun vs H Q E h => ?_) (fun cdv A outer s H vs Q E hr h => ?_)
  · obtain ⟨_, _, _, _, _, _, _, rfl, _⟩ := h
    rfl
  obtain ⟨pw, t, il, ub, iv, kvs, G, rfl, hv, hil, div, hub, bs, gn, q⟩ := h
  refine ⟨_, (pss_cons (ps_par (i := 3) (j := 4) (by rfl) sc_symbolic_part.nd rfl rfl (by decide) rfl rfl (pa_cons (pe_ix ix_tup (pv 0) pe_int (fun _ _ => rfl)) (pa_cons (pe_ix ix_tup (pv 0) pe_int (fun _ _ => rfl)) pa_nil)) (by rfl))
    (pss_cons (ps_if (pt_cmpR op_eq (pv 3) pe_str (nomark _)) (pss_one (ps_ret (C8.pe_c C_integer hr (by decide) rfl (pa_cons (pv 4) pa_nil)))) pss_nil)
    (pss_cons (ps_if (pt_cmpR op_eq (pv 3) pe_str (nomark _)) (pss_one (ps_ret (pe_dget (hu_of hr) (pv 2) (pv 4) (fun _ _ => rfl)))) pss_nil)
    (pss_cons (ps_if (pt_cmpR op_eq (pv 3) pe_str (nomark _)) (pss_one (ps_ret (pe_tup (pa_cons pe_str (pa_cons pe_non (pa_cons (pe_callTy call_tuple_of (by rfl) T.z_tuple (by decide +kernel) (pa_cons (pe_lc (own := [("entry", 5), ("word", 6), ("_", 7)]) (g := (gTup K 2 (gCons (gTup K 2 (gCons (gName 6) (gCons (gName 7) gNil))) (gCons (gName 5) gNil)))) (tt := tYes) (by rfl) sc_symbolic_part.nd (PKZ.pi_zipP (by rfl) T.z_zip (pa_cons (pv 4) (pa_cons (pv 1) pa_nil))) (blkOk_by (N := ["part", "inner", "unknowns", "head", "worth", "entry", "word", "_"]) (sc := defScope s_symbolic_part) (by decide +kernel)) (fun _ _ _ _ _ => (pg_tup (by rfl) (pgs_cons (pg_tup (by rfl) (pgs_cons (pg_name (i := 6) sc_symbolic_part.nd rfl (Or.inl rfl)) (pgs_cons (pg_name (i := 7) sc_symbolic_part.nd rfl (Or.inl rfl)) pgs_nil))) (pgs_cons (pg_name (i := 5) sc_symbolic_part.nd rfl (Or.inl rfl)) pgs_nil)))) (fun _ _ _ _ _ => pts_nil) (fun _ _ _ _ _ => (pe_tup (pa_cons (pe_tup (pa_cons pe_str (pa_cons (pv 6) pa_nil))) (pa_cons (pv 5) pa_nil))))) pa_nil)) pa_nil)))))) pss_nil)
    (pss_cons (ps_if (pt_cmpR op_eq (pv 3) pe_str (nomark _)) (pss_one (ps_ret (pe_tup (pa_cons pe_str (pa_cons (pv 4) (pa_cons (pe_callTy call_tuple_of (by rfl) T.z_tuple (by decide +kernel) (pa_cons (pv 1) pa_nil)) pa_nil)))))) pss_nil)
    (pss_one (ps_ret (pv 0)))))))), ?_⟩
  have hv0 := hv
  cases t with
  | form f ts => exact gn.elim
  | int n =>
    unfold Tm.d at hv
    obtain ⟨a, x, y, rfl, hs, h1, h2⟩ := Dt.t2 hv
    obtain rfl := h1.s
    cases h2
    rw [due] at q
    exact vTx rfl hs rfl (vTx rfl hs rfl ⟨_, _, rfl, _, rfl, rfl, _, rfl, sT rfl ⟨_, rfl, n, rfl, q⟩⟩)
  | var s =>
    unfold Tm.d at hv
    obtain ⟨a, x, y, rfl, hs, h1, h2⟩ := Dt.t2 hv
    obtain rfl := h1.s
    obtain rfl := h2.s
    obtain ⟨u, e⟩ := gn
    obtain ⟨v, ev, dv⟩ := bs s u e
    rw [due, e] at q
    exact vTx rfl hs rfl (vTx rfl hs rfl ⟨_, _, rfl, _, rfl, rfl, _, rfl, sF (by decide +kernel) ⟨_, rfl, rfl, _, rfl, sT rfl ⟨_, rfl, _, rfl, ub, v, rfl, by rw [← ev]; exact DGet.k (k := Sum.inr s) hub, q H v (Same.refl H) dv⟩⟩⟩)
  | name s =>
    unfold Tm.d at hv
    obtain ⟨a, x, y, rfl, hs, h1, h2⟩ := Dt.t2 hv
    obtain rfl := h1.s
    rw [due] at q
    refine vTx rfl hs rfl (vTx rfl hs rfl ⟨_, _, rfl, _, rfl, rfl, _, rfl, sF (by decide +kernel) ⟨_, rfl, rfl, _, rfl, sF (by decide +kernel) ⟨_, rfl, rfl, _, rfl, sF (by decide +kernel) ⟨_, rfl, rfl, _, rfl, sF (by decide +kernel) ⟨_, rfl, q H _ (Same.refl H) ?_⟩⟩⟩⟩⟩)
    unfold Sy.d
    unfold Tm.d at hv0
    exact hv0
  | addr n =>
    unfold Tm.d at hv
    obtain ⟨a, x, y, rfl, hs, h1, h2⟩ := Dt.t2 hv
    obtain rfl := h1.s
    rw [due] at q
    refine vTx rfl hs rfl (vTx rfl hs rfl ⟨_, _, rfl, _, rfl, rfl, _, rfl, sF (by decide +kernel) ⟨_, rfl, rfl, _, rfl, sF (by decide +kernel) ⟨_, rfl, rfl, _, rfl, sF (by decide +kernel) ⟨_, rfl, rfl, _, rfl, sF (by decide +kernel) ⟨_, rfl, q H _ (Same.refl H) ?_⟩⟩⟩⟩⟩)
    unfold Sy.d
    unfold Tm.d at hv0
    exact hv0
  | node c ts =>
    unfold Tm.d at hv
    obtain ⟨a, x, y, z, rfl, hs, h1, h2, h3⟩ := Dt.t3 hv
    obtain rfl := h1.s
    obtain rfl := h2.s
    rw [due_node] at q
    refine vTx rfl hs rfl (vTx rfl hs rfl ⟨_, _, rfl, _, rfl, rfl, _, rfl, sF (by decide +kernel) ⟨_, rfl, rfl, _, rfl, sF (by decide +kernel) ⟨_, rfl, rfl, _, rfl, sF (by decide +kernel) ⟨_, rfl, rfl, _, rfl, sT rfl ⟨_, rfl, _, rfl, il, iv, rfl, .inl ⟨SqL.of hil, fun p1 hp1 => ⟨small (by show 3 ≤ _; decide), fun p2 hp2 => q _ _ ((same_new hp1).trans (same_new hp2)) ?_⟩⟩⟩⟩⟩⟩⟩)
    unfold Sy.d
    rw [Sy.ds_map, List.map_map]
    exact Dt.mk3 hp2 (.str _) (.str _) (.tup (SqT.of upd_same) (div.same (same_new hp1)))
  | map es =>
    unfold Tm.d at hv
    obtain ⟨a, x, y, rfl, hs, h1, h2⟩ := Dt.t2 hv
    obtain rfl := h1.s
    obtain ⟨b, ys, rfl, hb, hys⟩ := Dt.tn h2
    rw [Tm.es_map] at hys
    have ly : ys.length = es.length := by rw [hys.lenD, List.length_map]
    have li : iv.length = es.length := by rw [div.lenD, List.length_map]; show (es.map Prod.snd).length = _; rw [List.length_map]
    have l10 : es.length ≤ 10 := gn.1
    rw [due_map] at q
    refine vTx rfl hs rfl (vTx rfl hs rfl ⟨_, _, rfl, _, rfl, rfl, _, rfl, sF (by decide +kernel) ⟨_, rfl, rfl, _, rfl, sF (by decide +kernel) ⟨_, rfl, rfl, _, rfl, sT rfl ?_⟩⟩⟩)
    refine ⟨_, rfl, _, rfl, .t, .l, b, il, ys, iv, rfl, hb, SqL.of hil, fun D hD => lcS (K := K) (PKZ.walk_zipP (n := iv.length) (by omega)) hD (by omega) (fun ds => ds = ((es.take ds.length).map fun e => (e.1, due G e.2)).map Sy.ent) rfl (fun H' s => ⟨Same.seqT s hb, SqL.of (s _ _ hil)⟩) ?_ ?_⟩
    · rintro i x H1 H2 ds R hi s ⟨U, x1, y1, rfl, hU, rfl, g1, g2⟩ jd len r
      obtain ⟨e, ge, dx⟩ := DtAll.getX hys g1
      obtain ⟨d2, gd, dy⟩ := DtAll.getX div g2
      rw [List.getElem?_map] at ge gd
      cases e0 : es[i]? with
      | none => rw [e0] at ge; cases ge
      | some en =>
      rw [e0] at ge
      cases ge
      have gk : (Tm.map es).kids[i]? = some en.2 := by show (es.map Prod.snd)[i]? = _; rw [List.getElem?_map, e0]; rfl
      rw [gk] at gd
      cases gd
      unfold Tm.ent at dx
      obtain ⟨a1, u1, w1, rfl, hs1, j1, j2⟩ := Dt.t2 (dx.same s)
      obtain rfl := j1.s
      refine ⟨U, _, rfl, SqT.of upd_same, rfl, _, _, rfl, ⟨a1, _, rfl, Same.seqT (same_new hU) hs1, rfl, _, _, rfl, _, _, rfl, rfl, _, _, rfl, rfl, rfl, ?_⟩⟩
      refine ⟨_, rfl, small (by show 2 ≤ _; decide), fun p hp => ⟨_, rfl, small (by show 2 ≤ _; decide), fun p' hp' => r (Sy.ent (en.1, due G en.2)) _ _ (((same_new hU).trans (same_new hp)).trans (same_new hp')) ?_ ?_⟩⟩
      · unfold Sy.ent nmD
        exact Dt.mk2 hp' (Dt.mk2 hp (.str _) (.str _)) (((dy.same s).new hU).same (same_new hp))
      · rw [List.length_append, len, show i + [Sy.ent (en.1, due G en.2)].length = i + 1 from rfl, List.take_add_one, e0, List.map_append, List.map_append]
        rw [len] at jd
        rw [← jd]; rfl
    · rintro H' vs ds s hw dz len jd
      rw [len, li, List.take_length] at jd
      rw [jd] at dz
      refine ⟨D, _, rfl, .inl ⟨SqL.of hw, fun p1 hp1 => ⟨small (by show 3 ≤ _; decide), fun p2 hp2 => q _ _ ((s.trans (same_new hp1)).trans (same_new hp2)) ?_⟩⟩⟩
      unfold Sy.d
      rw [Sy.es_map]
      exact Dt.mk3 hp2 (.str _) .non (.tup (SqT.of upd_same) (dz.same (same_new hp1)))
theorem ok_sym {f : Addr} {fd : FuncData} (F : Fun K "symbolic" "symbolic" s_symbolic f fd) (T : TxtZ K mg aF) (C_symbolic_part : C8.Cal P w K mg base 2 "_symbolic_part" (spSyp K) []) (C_children : C8.Cal P w K mg base 1 "children" (spKids K) []) (C_parts_of : PKL.CalGE P w K mg base 2 "parts_of" (spPg K)) : FnOk P w K mg base CX0 6 f fd ["term", "unknowns"] (spSym K) := by
  refine F.ok sc_symbolic (fun vs H Q E h => ?_) (fun cdv A outer s H vs Q E hr h => ?_)
  · obtain ⟨_, _, _, _, _, rfl, _⟩ := h
    rfl
  obtain ⟨v, t, ub, kvs, G, rfl, hv, hub, bs, gn, hsz, q⟩ := h
  refine ⟨_, (pss_cons (ps_set (i := 2) sc_symbolic.nd rfl (Or.inl rfl) (pe_lst pa_nil))
    (pss_cons (ps_for PassesOwn.never rfl (pi_list (pe_revL (PKL.pe_listOf C_parts_of hr (by decide) rfl (pa_cons (pv 0) pa_nil) (by rfl) T.z_list (by decide +kernel)))) (pg_name (i := 3) sc_symbolic.nd rfl (Or.inl rfl)) (pss_cons (ps_set (i := 4) sc_symbolic.nd rfl (Or.inl rfl) (pe_op op_sub (pe_callB call_len_seq (by rfl) T.z_len (by decide +kernel) (pa_cons (pv 2) pa_nil)) (pe_callB call_len_seq (by rfl) T.z_len (by decide +kernel) (pa_cons (C8.pe_c C_children hr (by decide) rfl (pa_cons (pv 3) pa_nil)) pa_nil))))
    (pss_cons (ps_set (i := 5) sc_symbolic.nd rfl (Or.inl rfl) (pe_revL (pe_slice sl_list (pv 2) (po_some (pv 4)) po_none)))
    (pss_cons (L2.PKR.ps_delFrom (pv 2) (pv 4))
    (pss_one (ps_expr (pe_bm PySem.F.plainAttrs_list PySem.F.slot_list_append PySem.F.type_list_append mt_append (pv 2) (pa_cons (C8.pe_c C_symbolic_part hr (by decide) rfl (pa_cons (pv 3) (pa_cons (pv 5) (pa_cons (pv 1) pa_nil)))) pa_nil))))))))
    (pss_one (ps_ret (pe_ix ix_list (pv 2) pe_int (fun _ _ => rfl)))))), ?_⟩
  refine ⟨small (by show 0 ≤ _; decide), fun ma hma => ?_⟩
  have s2 := same_new (o := .lst []) hma
  refine ⟨_, rfl, v, t, rfl, hv.same s2, by omega, fun H2 ws s3 dws p1 hp1 => ⟨p1, ws, rfl, SqL.of upd_same, fun pl hpl => ?_⟩⟩
  have lws : ws.length = t.parts.length := by rw [dws.lenD, List.length_map]
  have s4 := (same_new (o := .lst ws) hp1).trans (same_new (o := .lst ws.reverse) hpl)
  have hma5 := s4 _ _ (s3 _ _ (upd_same (H := H) (a := ma) (o := .lst [])))
  have hpl5 : (upd (upd H2 p1 (.lst ws)) pl (.lst ws.reverse)) pl = some (.lst ws.reverse) := upd_same
  have s15 : Same H (upd (upd H2 p1 (.lst ws)) pl (.lst ws.reverse)) := (s2.trans s3).trans s4
  have dws5 := dws.same s4
  have npm : pl ≠ ma := fun e => by rw [e, same_new (o := .lst ws) hp1 _ _ (s3 _ _ (upd_same (H := H) (a := ma) (o := .lst [])))] at hpl; cases hpl
  generalize upd (upd H2 p1 (.lst ws)) pl (.lst ws.reverse) = H5 at hma5 hpl5 s15 dws5 ⊢
  have sB : ∀ H', OffL ma H5 H' → Same H H' := fun H' o b u h => o.keep b u (ne_of_none h hma) (s15 _ _ h)
  refine ⟨pl, rfl, ⟨_, SqL.of hpl5⟩, for_it (walk_list (K := K) (xs := ws.reverse)) (fun i σ H' => ∃ (o5 o6 o7 : Option V) (xs : List V), σ = [some v, some (.ref ub), some (.ref ma), o5, o6, o7] ∧ OffL ma H5 H' ∧ H' ma = some (.lst xs) ∧ DtAll K H' xs ((stk t (t.parts.length - i)).map fun k => (due G k).d)) ?_ ?_ ?_ ?_⟩
  · refine ⟨_, _, _, [], rfl, ⟨⟨_, hma5⟩, fun _ _ _ h => h⟩, hma5, ?_⟩
    rw [Nat.sub_zero, stk_end]
    exact .nil
  · rintro i σ H' _ ⟨_, _, _, _, _, o, _⟩
    exact SqL.of (o.keep _ _ npm hpl5)
  · rintro i x σ H6 H6 hi ⟨o5, o6, o7, xs, rfl, o1, hma6, trs⟩ ⟨rfl, gx⟩
    rw [List.length_reverse] at hi
    obtain ⟨j, ej⟩ : ∃ j, t.parts.length - i = j + 1 := ⟨t.parts.length - i - 1, by omega⟩
    have ej2 : t.parts.length - (i + 1) = j := by omega
    rw [List.getElem?_reverse hi, show ws.length - 1 - i = j by omega] at gx
    obtain ⟨dd, gd, dx⟩ := dws5.getX gx
    rw [List.getElem?_map] at gd
    cases e0 : t.parts[j]? with
    | none => rw [e0] at gd; cases gd
    | some k =>
    rw [e0] at gd
    cases gd
    obtain ⟨r, e1, e2⟩ := stk_at t e0
    rw [ej, e2, List.map_append] at trs
    obtain ⟨us, zs, rfl, tu, tz⟩ := DtAll.splitR trs
    have lu := tu.lenD
    have lz := tz.lenD
    rw [List.length_map] at lu
    rw [List.length_map, List.length_reverse] at lz
    have hk := List.mem_of_getElem? e0
    have gk : GN G k := al_parts gn hk
    have l10 : k.kids.length ≤ 10 := GN.len gk
    have lr : r.length ≤ 1000000 := by
      have := stk_len t (j := j) (by omega)
      rw [e1, List.length_append, Tm.parts_len] at this
      omega
    have dx6 : Dt K H6 x k.d := Dt.mono (fun _ _ y => o1.seqT y) _ _ dx
    refine ⟨_, rfl, ma, _, rfl, .inl (SqL.of hma6), _, rfl, x, k, rfl, dx6, by omega, fun H7 p7 ys7 s7 hp7 dy7 => ⟨p7, ys7, rfl, .inr hp7, ?_⟩⟩
    have ly : ys7.length = k.kids.length := by rw [dy7.lenD, List.length_map]
    have hma7 := s7 _ _ hma6
    refine ⟨_, _, rfl, rfl, ?_⟩
    have es : (((us ++ zs).length : Nat) : Int) - ((ys7.length : Nat) : Int) = ((us.length : Nat) : Int) := by rw [List.length_append]; omega
    dsimp only
    rw [es]
    refine ⟨_, rfl, _, rfl, _, rfl, ma, _, rfl, SqL.of hma7, fun p8 hp8 => ⟨p8, _, rfl, SqL.of upd_same, fun p9 hp9 => ?_⟩⟩
    rw [cut_drop _ _ (by rw [List.length_append]; omega), List.drop_left] at hp9 ⊢
    have s9 := (same_new (o := .lst zs) hp8).trans (same_new (o := .lst zs.reverse) hp9)
    have hma9 := s9 _ _ hma7
    have hp99 : (upd (upd H7 p8 (.lst zs)) p9 (.lst zs.reverse)) p9 = some (.lst zs.reverse) := upd_same
    have n9 : p9 ≠ ma := fun e => by rw [e, same_new (o := .lst zs) hp8 _ _ hma7] at hp9; cases hp9
    generalize upd (upd H7 p8 (.lst zs)) p9 (.lst zs.reverse) = H9 at s9 hma9 hp99 ⊢
    have s69 := s7.trans s9
    refine ⟨_, rfl, _, rfl, ma, _, us.length, rfl, rfl, hma9, by rw [List.length_append]; omega, ?_⟩
    rw [List.take_left]
    have o69 : OffL ma H6 (upd H9 ma (.lst us)) := ⟨⟨_, hma6⟩, fun b o n h => by rw [upd_ne n]; exact s69 _ _ h⟩
    have o510 : OffL ma H5 (upd H9 ma (.lst us)) := ⟨⟨_, hma5⟩, fun b o n h => o69.keep _ _ n (o1.keep _ _ n h)⟩
    have hma10 : (upd H9 ma (.lst us)) ma = some (.lst us) := upd_same
    have hp10 : (upd H9 ma (.lst us)) p9 = some (.lst zs.reverse) := by rw [upd_ne n9]; exact hp99
    generalize upd H9 ma (.lst us) = H10 at o69 o510 hma10 hp10 ⊢
    have tz10 : DtAll K H10 zs.reverse (k.kids.map fun k => (due G k).d) := by
      have := (DtAll.mono (fun _ _ y => o69.seqT y) _ _ tz).rev
      rw [← List.map_reverse, List.reverse_reverse] at this
      exact this
    have s110 := sB _ o510
    have dx10 : Dt K H10 x k.d := Dt.mono (fun _ _ y => o69.seqT y) _ _ dx6
    refine ⟨_, rfl, .inl ⟨rfl, _, SqL.of hma10⟩, _, rfl, _, rfl, _, rfl, ?_⟩
    refine ⟨x, k, p9, ub, zs.reverse, kvs, G, rfl, dx10, hp10, tz10, s110 _ _ hub, bs.same s110, gk.at_, fun H11 v11 s11 dv => ?_⟩
    have hma11 := s11 _ _ hma10
    refine ⟨ma, us, v11, rfl, rfl, hma11, smallL (by omega), ?_⟩
    refine ⟨_, _, _, us ++ [v11], rfl, ⟨o510.a, fun b u n h => by rw [upd_ne n]; exact s11 _ _ (o510.keep _ _ n h)⟩, upd_same, ?_⟩
    rw [ej2, e1, List.map_append]
    exact DtAll.upd ((DtAll.same (DtAll.mono (fun _ _ y => o69.seqT y) _ _ tu) s11).append (.cons dv .nil)) hma11
  rintro σ H6 ⟨o5, o6, o7, xs, rfl, o1, hma6, trs⟩
  rw [List.length_reverse, lws, Nat.sub_self] at trs
  cases trs with
  | cons a b =>
  cases b
  exact ⟨_, rfl, ma, _, 0, _, rfl, rfl, SqL.of hma6, rfl, q H6 _ (sB _ o1) a⟩
end
end PK
namespace PK
open PySem L2
/-! templates_of; dicts of data -/
theorem look_none {β γ : Type} : ∀ {ps : List Str} {ys : List β} {ds : List γ} {s : Str}, ys.length = ds.length → lookA (ps.zip ds) s = none → lookA ((ps.map (Sum.inr : Str → Key)).zip ys) (.inr s) = none
  | [], _, _, _, _, _ => rfl
  | _ :: _, [], _, _, _, _ => rfl
  | _ :: _, _ :: _, [], _, h, _ => nomatch h
  | q :: ps, y :: ys, d :: ds, s, h, e => by
    rw [List.zip_cons_cons, lookA_cons] at e
    rw [List.map_cons, List.zip_cons_cons, lookA_cons]
    cases e3 : lookA (ps.zip ds) s with
    | some _ => rw [e3] at e; cases e
    | none =>
      rw [e3] at e
      rw [look_none (Nat.succ.inj h) e3]
      by_cases eq : q = s
      · simp [eq] at e
      · simp [eq]
theorem valV_mergeK : ∀ (more kvs : List (Key × V)) (k : Key), valV (mergeK kvs more) k = match lookA more k with | some v => some v | none => valV kvs k
  | [], kvs, k => rfl
  | (j, v) :: more, kvs, k => by
    show valV (mergeK (putK kvs j v) more) k = _
    rw [valV_mergeK more (putK kvs j v) k, valV_put]
    rw [lookA_cons]
    cases e : lookA more k with
    | some u => rfl
    | none =>
      by_cases h : j = k
      · subst h; simp
      · have h' : ¬ k = j := fun z => h z.symm
        simp [h, h']
/-- of the words of the row the dict tells the last one's data -/
def BindR (K : PySem.W.Frag) (H : Hp) (kvs : List (Key × V)) (tab : List (Str × PyData)) : Prop := ∀ s d, lookA tab s = some d → ∃ v, valV kvs (.inr s) = some v ∧ Dt K H v d
theorem BindR.mono {K : PySem.W.Frag} {H H' : Hp} {kvs : List (Key × V)} {tab : List (Str × PyData)} (h : BindR K H kvs tab) (k : ∀ v d, Dt K H v d → Dt K H' v d) : BindR K H' kvs tab := fun s d e =>
  let ⟨v, e1, e2⟩ := h s d e
  ⟨v, e1, k _ _ e2⟩
theorem look_zip {K : PySem.W.Frag} {H : Hp} : ∀ {ps : List Str} {ys : List V} {ds : List PyData}, DtAll K H ys ds → ∀ s d, lookA (ps.zip ds) s = some d → ∃ v, lookA ((ps.map (Sum.inr : Str → Key)).zip ys) (.inr s) = some v ∧ Dt K H v d
  | [], _, _, _, s, d, h => by cases h
  | p :: ps, _, _, .nil, s, d, h => by cases h
  | p :: ps, y :: ys, d0 :: ds, .cons h0 ht, s, d, h => by
    rw [List.zip_cons_cons] at h
    rw [List.map_cons, List.zip_cons_cons]
    rw [lookA_cons] at h ⊢
    have ih := look_zip (ps := ps) ht s
    cases e : lookA (ps.zip ds) s with
    | some u =>
      rw [e] at h
      cases h
      obtain ⟨v, e1, e2⟩ := ih d e
      rw [e1]
      exact ⟨v, rfl, e2⟩
    | none =>
      rw [e] at h
      by_cases ep : p = s
      · subst ep
        simp at h
        subst h
        rw [look_none ht.lenD e]
        exact ⟨y, by simp, h0⟩
      · simp [ep] at h
theorem BindR.zip {K : PySem.W.Frag} {H : Hp} {ps : List Str} {ys : List V} {ds : List PyData} (h : DtAll K H ys ds) : BindR K H (mergeK [] ((ps.map (Sum.inr : Str → Key)).zip ys)) (ps.zip ds) := fun s d e => by
  obtain ⟨v, e1, e2⟩ := look_zip h s d e
  exact ⟨v, by rw [valV_mergeK, e1], e2⟩
/-- the dict of the templates -/
def TplR (K : PySem.W.Frag) (H : Hp) (kvs : List (Key × V)) (R : List Rw) : Prop := ∀ r ∈ R, ∃ v, valV kvs (.inr r.nm) = some v ∧ Dt K H v (.tuple [.tuple (r.ps.map .str), r.t.d])
theorem TplR.mono {K : PySem.W.Frag} {H H' : Hp} {kvs : List (Key × V)} {R : List Rw} (h : TplR K H kvs R) (k : ∀ v d, Dt K H v d → Dt K H' v d) : TplR K H' kvs R := fun r hr =>
  let ⟨v, e1, e2⟩ := h r hr
  ⟨v, e1, k _ _ e2⟩
def spTpl (K : PySem.W.Frag) : Sp := fun vs H Q _ => ∃ (v : V) (R : List Rw), vs = [v] ∧ Dt K H v (.tuple (R.map Rw.d)) ∧ (R.map Rw.nm).Nodup ∧ R.length ≤ 1000 ∧
  ∀ (H' : Hp) (p : Addr) (kvs : List (Key × V)), Same H H' → H' p = some (.dK kvs) → TplR K H' kvs R → Q (.ref p) H'
section
variable {P : Program} {w : World} {K : PySem.W.Frag} {mg : Str → Option Value} {base : Heap} {aF : Addr}
abbrev s_templates_of : Stmt := topS 103
theorem sc_templates_of : FnScope ["rows", "name", "parameters", "template"] ["rows"] (defScope s_templates_of) := ⟨rfl, rfl, rfl, by decide +kernel, rfl, by decide +kernel, by decide +kernel⟩
-- slots: 0:rows 1:name(comp) 2:parameters(comp) 3:template(comp)
theorem ok_tpl {f : Addr} {fd : FuncData} (F : Fun K "templates_of" "templates_of" s_templates_of f fd) (T : TxtZ K mg aF) : FnOk P w K mg base CX0 1 f fd ["rows"] (spTpl K) := by
  refine F.ok sc_templates_of (fun vs H Q E h => ?_) (fun cdv A outer s H vs Q E hr h => ?_)
  · obtain ⟨v, R, rfl, _⟩ := h
    rfl
  obtain ⟨v, R, rfl, hv, nd, hl, q⟩ := h
  refine ⟨_, (pss_one (ps_ret (pe_dc (own := [("name", 1), ("parameters", 2), ("template", 3)]) (g := (gTup K 3 (gCons (gName 1) (gCons (gName 2) (gCons (gName 3) gNil))))) (tt := tYes) (by rfl) sc_templates_of.nd (PKR.pi_or (pi_list (pv 0)) (pi_tup (pv 0))) (blkOk_by (N := ["rows", "name", "parameters", "template"]) (sc := defScope s_templates_of) (by decide +kernel)) (fun _ _ _ _ _ => (pg_tup (by rfl) (pgs_cons (pg_name (i := 1) sc_templates_of.nd rfl (Or.inl rfl)) (pgs_cons (pg_name (i := 2) sc_templates_of.nd rfl (Or.inl rfl)) (pgs_cons (pg_name (i := 3) sc_templates_of.nd rfl (Or.inl rfl)) pgs_nil))))) (fun _ _ _ _ _ => pts_nil) (fun _ _ _ _ _ => (pv 1)) (fun _ _ _ _ _ => (pe_tup (pa_cons (pv 2) (pa_cons (pv 3) pa_nil))))))), ?_⟩
  obtain ⟨a, ws, rfl, hs, da⟩ := Dt.tn hv
  have lw : ws.length = R.length := by rw [da.lenD, List.length_map]
  refine .inr ⟨_, rfl, a, rfl, ⟨_, hs⟩, fun D hD => dc_tup (K := K) (a := a) (xs := ws) (fun i H' => ∃ kvs, Same H H' ∧ H' D = some (.dK kvs) ∧ kvs.length ≤ i ∧ ∀ r ∈ R.take i, ∃ v, valV kvs (.inr r.nm) = some v ∧ Dt K H' v (.tuple [.tuple (r.ps.map .str), r.t.d])) ?_ ?_ ?_ ?_⟩
  · exact ⟨[], same_new hD, upd_same, Nat.zero_le _, fun r hr => by rw [List.take_zero] at hr; cases hr⟩
  · rintro i H' hi ⟨_, s, _⟩
    exact Same.seqT s hs
  · rintro i x H' gx ⟨kvs, s, hd, lk, hk⟩
    obtain ⟨d, gd, dx⟩ := DtAll.getX da gx
    rw [List.getElem?_map] at gd
    cases e0 : R[i]? with
    | none => rw [e0] at gd; cases gd
    | some r =>
    rw [e0] at gd
    cases gd
    unfold Rw.d at dx
    obtain ⟨b, x1, y1, z1, rfl, hb, h1, h2, h3⟩ := Dt.t3 (dx.same s)
    obtain rfl := h1.s
    have il : i < R.length := (List.getElem?_eq_some_iff.mp e0).1
    refine ⟨b, _, rfl, hb, rfl, _, _, rfl, _, _, rfl, _, _, rfl, rfl, rfl, ?_⟩
    refine yes_ ⟨_, rfl, _, rfl, _, rfl, small (by show 2 ≤ _; decide), fun p hp => ?_⟩
    have nD : D ≠ p := ne_of_none hd hp
    have hd2 : (upd H' p (.tup [y1, z1])) D = some (.dK kvs) := by rw [upd_ne nD]; exact hd
    have lz := length_putK kvs (.inr r.nm) (V.ref p)
    have dn : Dt K (upd H' p (.tup [y1, z1])) (.ref p) (.tuple [.tuple (r.ps.map .str), r.t.d]) := Dt.mk2 hp h2 h3
    refine ⟨kvs, .inr r.nm, rfl, hd2, smallL (by omega), _, Same.upd (s.trans (same_new hp)) hD, upd_same, by omega, fun r2 hr2 => ?_⟩
    rw [valV_put]
    rw [List.take_add_one, e0] at hr2
    rcases List.mem_append.mp hr2 with h | h
    · obtain ⟨v2, k1, k2⟩ := hk r2 h
      have nn : r2.nm ≠ r.nm := by
        intro e
        obtain ⟨j, hj, ej⟩ := List.getElem_of_mem h
        rw [List.length_take] at hj
        rw [List.getElem_take] at ej
        have h1 : (R.map Rw.nm)[j]? = some r2.nm := by rw [List.getElem?_map, List.getElem?_eq_getElem (by omega), ej]; rfl
        have h2 : (R.map Rw.nm)[i]? = some r.nm := by rw [List.getElem?_map, e0]; rfl
        have : j = i := (List.getElem?_inj (by rw [List.length_map]; omega) nd).mp (by rw [h1, h2, e])
        omega
      rw [if_neg (fun z => nn (Sum.inr.inj z))]
      exact ⟨v2, k1, Dt.mono (fun _ _ z => seqT_updK z hd2) _ _ (k2.new hp)⟩
    · obtain rfl : r2 = r := by simpa using h
      rw [if_pos rfl]
      exact ⟨_, rfl, Dt.mono (fun _ _ z => seqT_updK z hd2) _ _ dn⟩
  · rintro H' ⟨kvs, s, hd, _, hk⟩
    rw [lw, List.take_length] at hk
    exact q _ D kvs s hd hk
end
end PK
namespace PK
open PySem L2
/-! translate -/
section
variable {X : Cx} {x : Str} {p : Pos}
theorem pe_glI {n : Int} (hg : Gl X x) (h : ∃ t, X.mg x = some (.int n t)) (hd : (x == ("__debug__" : Str)) = false := by decide) : PE X (.Name x p) (tC (.int n)) := by
  obtain ⟨t, h⟩ := h
  exact pe_glob hg h ⟨_, rfl⟩ hd
end
structure TxtX (K : PySem.W.Frag) (mg : Str → Option Value) (aF CL : Addr) : Prop extends TxtZ K mg aF where
  g_MP : ∃ t, mg "MOST_PARTS" = some (.int 4000 t)
  g_MN : ∃ t, mg "MOST_NESTED" = some (.int 200 t)
  gL : mg "TooLarge" = some (.ref CL)
  xL : PySem.W.excIn K CL [.type "ValueError", .type "Exception", .type "BaseException", .type "object"] "ValueError.__new__" = true
  kL : PySem.W.keepIn K (.ref CL) = true
  bL : PySem.W.subIn K (.ref CL) (.type "BaseException") = some true
  tL : PySem.W.typeIn K (.ref CL) = some (.type "type")
  eL : PySem.W.exmOne K (.ref CL) (.ref CL) = some true
/-- what stands in waiting -/
def BvR (K : PySem.W.Frag) (H : Hp) (bv : V) : Option Tab → Prop
  | none => bv = .non
  | some tab => ∃ (p : Addr) (kvs : List (Key × V)), bv = .ref p ∧ H p = some (.dK kvs) ∧ BindR K H kvs (tab.map fun q => (q.1, q.2.d))
structure ItR (K : PySem.W.Frag) (H : Hp) (x : V) (it : Itm) : Prop where
  mk :: (out : ∃ (a : Addr) (pv bv : V), x = .ref a ∧ SqT K H a [pv, bv, .int (it.dep : Nat)] ∧ Dt K H pv it.part.d ∧ BvR K H bv it.b)
theorem BvR.same {K : PySem.W.Frag} {H H' : Hp} {bv : V} {b : Option Tab} (h : BvR K H bv b) (s : Same H H') : BvR K H' bv b := by
  cases b with
  | none => exact h
  | some tab =>
    obtain ⟨p, kvs, e, h1, h2⟩ := h
    exact ⟨p, kvs, e, s _ _ h1, h2.mono fun _ _ z => z.same s⟩
theorem BvR.updL {K : PySem.W.Frag} {H : Hp} {bv : V} {b : Option Tab} {D : Addr} {vs us : List V} (h : BvR K H bv b) (hD : H D = some (.lst vs)) : BvR K (upd H D (.lst us)) bv b := by
  cases b with
  | none => exact h
  | some tab =>
    obtain ⟨p, kvs, e, h1, h2⟩ := h
    exact ⟨p, kvs, e, by rw [upd_ne (fun z => by rw [z, hD] at h1; cases h1)]; exact h1, h2.mono fun _ _ z => z.updL hD⟩
theorem ItR.same {K : PySem.W.Frag} {H H' : Hp} {x : V} {it : Itm} (h : ItR K H x it) (s : Same H H') : ItR K H' x it := by
  obtain ⟨a, pv, bv, e, h1, h2, h3⟩ := h.out
  exact ⟨a, pv, bv, e, Same.seqT s h1, h2.same s, h3.same s⟩
theorem ItR.updL {K : PySem.W.Frag} {H : Hp} {x : V} {it : Itm} {D : Addr} {vs us : List V} (h : ItR K H x it) (hD : H D = some (.lst vs)) : ItR K (upd H D (.lst us)) x it := by
  obtain ⟨a, pv, bv, e, h1, h2, h3⟩ := h.out
  exact ⟨a, pv, bv, e, seqT_upd h1 hD, h2.updL hD, h3.updL hD⟩
inductive ItAll (K : PySem.W.Frag) (H : Hp) : List V → List Itm → Prop
  | nil : ItAll K H [] []
  | cons {x : V} {it : Itm} {xs : List V} {its : List Itm} : ItR K H x it → ItAll K H xs its → ItAll K H (x :: xs) (it :: its)
theorem ItAll.map {K : PySem.W.Frag} {H H' : Hp} : ∀ {xs : List V} {its : List Itm}, ItAll K H xs its → (∀ x it, ItR K H x it → ItR K H' x it) → ItAll K H' xs its
  | _, _, .nil, _ => .nil
  | _, _, .cons h t, k => .cons (k _ _ h) (t.map k)
theorem ItAll.len {K : PySem.W.Frag} {H : Hp} : ∀ {xs : List V} {its : List Itm}, ItAll K H xs its → xs.length = its.length
  | _, _, .nil => rfl
  | _, _, .cons _ t => by rw [List.length_cons, List.length_cons, t.len]
theorem ItAll.app {K : PySem.W.Frag} {H : Hp} : ∀ {xs ys : List V} {its jts : List Itm}, ItAll K H xs its → ItAll K H ys jts → ItAll K H (xs ++ ys) (its ++ jts)
  | _, _, _, _, .nil, h => h
  | _, _, _, _, .cons a t, h => .cons a (t.app h)
theorem ItAll.split {K : PySem.W.Frag} {H : Hp} : ∀ {xs : List V} {its jts : List Itm}, ItAll K H xs (its ++ jts) → ∃ ys zs, xs = ys ++ zs ∧ ItAll K H ys its ∧ ItAll K H zs jts
  | xs, [], _, h => ⟨[], xs, rfl, .nil, h⟩
  | _, it :: its, jts, .cons a t => by
    obtain ⟨ys, zs, rfl, h1, h2⟩ := ItAll.split (its := its) t
    exact ⟨_ :: ys, zs, rfl, .cons a h1, h2⟩
theorem Tm.of_var {t : Tm} (e : t.hd = "meta") : ∃ s, t = .var s := by
  cases t with
  | var s => exact ⟨s, rfl⟩
  | form f _ => exact absurd e (show f.s ≠ "meta" by cases f <;> decide +kernel)
  | int _ => exact absurd e (show ("int" : Str) ≠ "meta" by decide +kernel)
  | name _ => exact absurd e (show ("name" : Str) ≠ "meta" by decide +kernel)
  | addr _ => exact absurd e (show ("addr" : Str) ≠ "meta" by decide +kernel)
  | node _ _ => exact absurd e (show ("node" : Str) ≠ "meta" by decide +kernel)
  | map _ => exact absurd e (show ("map" : Str) ≠ "meta" by decide +kernel)
theorem Tm.of_node {t : Tm} (e : t.hd = "node") : ∃ c ts, t = .node c ts := by
  cases t with
  | node c ts => exact ⟨c, ts, rfl⟩
  | form f _ => exact absurd e f.ne_node
  | int _ => exact absurd e (show ("int" : Str) ≠ "node" by decide +kernel)
  | name _ => exact absurd e (show ("name" : Str) ≠ "node" by decide +kernel)
  | addr _ => exact absurd e (show ("addr" : Str) ≠ "node" by decide +kernel)
  | var _ => exact absurd e (show ("meta" : Str) ≠ "node" by decide +kernel)
  | map _ => exact absurd e (show ("map" : Str) ≠ "node" by decide +kernel)
theorem Itm.s1_none {it : Itm} (h : it.b = none) : it.s1 = it := by
  obtain ⟨part, b, dep⟩ := it
  have h : b = none := h
  subst h
  unfold Itm.s1; rfl
theorem Itm.s1_other {it : Itm} (h : ∀ s, it.part ≠ .var s) : it.s1 = it := by
  obtain ⟨part, b, dep⟩ := it
  unfold Itm.s1
  dsimp only
  split
  · exact absurd rfl (h _)
  · rfl
theorem Itm.s1_at {it : Itm} {tab : Tab} {s : Str} {t : Tm} (h : it.b = some tab) (e : it.part = .var s) (l : lookA tab s = some t) : it.s1 = ⟨t, none, it.dep⟩ := by
  obtain ⟨part, b, dep⟩ := it
  have h : b = some tab := h
  have e : part = .var s := e
  subst h e
  unfold Itm.s1
  dsimp only
  rw [l]
theorem Itm.s2_some {R : List Rw} {it : Itm} {tab : Tab} (h : it.b = some tab) : it.s2 R = it := by
  obtain ⟨part, b, dep⟩ := it
  have h : b = some tab := h
  subst h
  unfold Itm.s2; rfl
theorem Itm.s2_other {R : List Rw} {it : Itm} (h : ∀ c ts, it.part ≠ .node c ts) : it.s2 R = it := by
  obtain ⟨part, b, dep⟩ := it
  unfold Itm.s2
  dsimp only
  split
  · exact absurd rfl (h _ _)
  · rfl
theorem Itm.s2_at {R : List Rw} {it : Itm} {c : Str} {ts : List Tm} {r : Rw} (h : it.b = none) (e : it.part = .node c ts) (l : rowOf R c = some r) : it.s2 R = ⟨r.t, some (r.ps.zip ts), it.dep⟩ := by
  obtain ⟨part, b, dep⟩ := it
  have h : b = none := h
  have e : part = .node c ts := e
  subst h e
  unfold Itm.s2
  dsimp only
  rw [l]
theorem DtAll.strsE {K : PySem.W.Frag} {H : Hp} : ∀ {xs : List V} {ss : List Str}, DtAll K H xs (ss.map PyData.str) → xs = ss.map V.str
  | _, [], h => by cases h; rfl
  | _, n :: r, h => by
    cases h with
    | cons h t => rw [h.s, DtAll.strsE t]; rfl
def spTrans (K : PySem.W.Frag) (CL : Addr) : Sp := fun vs H Q E => ∃ (u v : V) (R : List Rw) (t : Tm), vs = [u, v] ∧ Dt K H u (.tuple (R.map Rw.d)) ∧ Dt K H v t.d ∧ okR R ∧ okT R t ∧ (t.trans R).ht ≤ 201 ∧
  (∀ (H' : Hp) (v' : V), Same H H' → (t.trans R).size ≤ 4000 → Dt K H' v' (t.trans R).d → Q v' H') ∧ (∀ H' : Hp, Same H H' → 4000 < (t.trans R).size → E (.ref CL) none H')
section
variable {P : Program} {w : World} {K : PySem.W.Frag} {mg : Str → Option Value} {base : Heap} {aF CL : Addr}
abbrev s_translate : Stmt := topS 104
theorem sc_translate : FnScope ["rows", "term", "templates", "heads", "waiting", "part", "bindings", "depth", "parameters", "template", "parts", "inner"] ["rows", "term"] (defScope s_translate) := ⟨rfl, rfl, rfl, by decide +kernel, rfl, by decide +kernel, by decide +kernel⟩
-- slots: 0:rows 1:term 2:templates 3:heads 4:waiting 5:part 6:bindings(cell) 7:depth(cell) 8:parameters 9:template 10:parts 11:inner(comp)
theorem ok_trans {f : Addr} {fd : FuncData} (F : Fun K "translate" "translate" s_translate f fd) (T : TxtX K mg aF CL) (C_children : C8.Cal P w K mg base 1 "children" (spKids K) []) (C_assembled : C8.Cal P w K mg base 2 "assembled" (spAsm K) [])
    (C_templates_of : C8.Cal P w K mg base 1 "templates_of" (spTpl K) []) : FnOk P w K mg base (L2.CX P w) 3 f fd ["rows", "term"] (spTrans K CL) := by
  refine F.okX sc_translate (fun vs H Q E h => ?_) (fun cdv A outer s H vs Q E hr h => ?_)
  · obtain ⟨u, v, R, t, rfl, _⟩ := h
    rfl
  obtain ⟨u, v, R, t, rfl, hu, hv, oR, oT, hh, q, qE⟩ := h
  refine ⟨_, (pss_cons (ps_set (i := 2) sc_translate.nd rfl (Or.inl rfl) (C8.pe_c C_templates_of hr (by decide) rfl (pa_cons (pv 0) pa_nil)))
    (pss_cons (ps_set (i := 3) sc_translate.nd rfl (Or.inl rfl) (pe_lst pa_nil))
    (pss_cons (ps_set (i := 4) sc_translate.nd rfl (Or.inl rfl) (pe_lst (pa_cons (pe_tup (pa_cons (pv 1) (pa_cons pe_non (pa_cons pe_int pa_nil)))) pa_nil)))
    (pss_cons (ps_while (passes_of rfl) (pt_truth (pv 4) (by intro _; rfl)) (pss_cons (ps_asg (pe_bm0 PySem.F.plainAttrs_list PySem.F.slot_list_pop PySem.F.type_list_pop mt_pop (pv 4)) (pg_tup (by rfl) (pgs_cons (pg_name (i := 5) sc_translate.nd rfl (Or.inl rfl)) (pgs_cons (pg_name (i := 6) sc_translate.nd rfl (Or.inr rfl)) (pgs_cons (pg_name (i := 7) sc_translate.nd rfl (Or.inr rfl)) pgs_nil)))))
    (C8.pss_cut (ps_if (PW.pt (pw_and (pt_cmpR op_notN (pv 6) pe_non (nomark _)) (pw_and1 (pt_cmpR op_eq (pe_ix ix_tup (pv 5) pe_int (fun _ _ => rfl)) pe_str (nomark _))))) (pss_one (ps_asg (pe_tup (pa_cons (pe_dget (hu_of hr) (pv 6) (pe_ix ix_tup (pv 5) pe_int (fun _ _ => rfl)) (fun _ _ => rfl)) (pa_cons pe_non pa_nil))) (pg_tup (by rfl) (pgs_cons (pg_name (i := 5) sc_translate.nd rfl (Or.inl rfl)) (pgs_cons (pg_name (i := 6) sc_translate.nd rfl (Or.inr rfl)) pgs_nil))))) pss_nil)
    (C8.pss_cut (ps_if (PW.pt (pw_and (pt_cmpR op_isN (pv 6) pe_non (nomark _)) (pw_and1 (pt_cmpR op_eq (pe_ix ix_tup (pv 5) pe_int (fun _ _ => rfl)) pe_str (nomark _))))) (pss_cons (ps_asg (pe_dget (hu_of hr) (pv 2) (pe_ix ix_tup (pv 5) pe_int (fun _ _ => rfl)) (fun _ _ => rfl)) (pg_tup (by rfl) (pgs_cons (pg_name (i := 8) sc_translate.nd rfl (Or.inl rfl)) (pgs_cons (pg_name (i := 9) sc_translate.nd rfl (Or.inl rfl)) pgs_nil))))
    (pss_one (ps_asg (pe_tup (pa_cons (pv 9) (pa_cons (PKZ.pe_dictZip (by rfl) (by rfl) T.z_dict (by decide +kernel) (by rfl) T.z_zip (pa_cons (pv 8) (pa_cons (pe_ix ix_tup (pv 5) pe_int (fun _ _ => rfl)) pa_nil))) pa_nil))) (pg_tup (by rfl) (pgs_cons (pg_name (i := 5) sc_translate.nd rfl (Or.inl rfl)) (pgs_cons (pg_name (i := 6) sc_translate.nd rfl (Or.inr rfl)) pgs_nil)))))) pss_nil)
    (pss_cons (ps_set (i := 10) sc_translate.nd rfl (Or.inl rfl) (C8.pe_c C_children hr (by decide) rfl (pa_cons (pv 5) pa_nil)))
    (pss_cons (ps_expr (pe_bm PySem.F.plainAttrs_list PySem.F.slot_list_append PySem.F.type_list_append mt_append (pv 3) (pa_cons (pe_tup (pa_cons (pv 5) (pa_cons (pe_callB call_len_seq (by rfl) T.z_len (by decide +kernel) (pa_cons (pv 10) pa_nil)) pa_nil))) pa_nil)))
    (pss_cons (ps_if (PW.pt (pw_or (pt_cmpR op_gt (pe_callB call_len_seq (by rfl) T.z_len (by decide +kernel) (pa_cons (pv 3) pa_nil)) (pe_glI (n := 4000) rfl T.g_MP) (nomark _)) (pw_or1 (pt_cmpR op_gt (pv 7) (pe_glI (n := 200) rfl T.g_MN) (nomark _))))) (pss_one (ps_raise rfl (takes_of rfl rfl rfl rfl) (pmk_own PySem.F.excBase_ValueError T.xL T.gL T.kL (raises_own T.bL T.tL) rfl))) pss_nil)
    (pss_one (ps_expr (pe_bm PySem.F.plainAttrs_list PySem.F.slot_list_extend PySem.F.type_list_extend mt_extend (pv 4) (pa_cons (pe_lc (own := [("inner", 11)]) (g := (gName 11)) (tt := tYes) (by rfl) sc_translate.nd (pi_tup (PKZ.pe_revT (pv 10))) (blkOk_by (N := ["rows", "term", "templates", "heads", "waiting", "part", "bindings", "depth", "parameters", "template", "parts", "inner"]) (sc := defScope s_translate) (by decide +kernel)) (fun _ _ _ _ _ => (pg_name (i := 11) sc_translate.nd rfl (Or.inl rfl))) (fun _ _ _ _ _ => pts_nil) (fun _ _ _ _ _ => (pe_tup (pa_cons (pv 11) (pa_cons (pv 6) (pa_cons (pe_op op_add (pv 7) pe_int) pa_nil)))))) pa_nil)))))))))))
    (pss_one (ps_ret (C8.pe_c C_assembled hr (by decide) rfl (pa_cons (pv 3) pa_nil)))))))), ?_⟩
  refine ⟨_, rfl, u, R, rfl, hu, oR.nd, oR.len, fun H1 tp kvs s1 htp htpl => ?_⟩
  refine ⟨Nat.zero_le _, fun hd hhd => ?_⟩
  refine ⟨_, rfl, small (by show 3 ≤ _; decide), fun p0 hp0 => ⟨small (by show 1 ≤ _; decide), fun wt hwt => ?_⟩⟩
  have s2 : Same H1 (upd (upd H1 hd (.lst [])) p0 (.tup [v, .non, .int 0])) := (same_new hhd).trans (same_new hp0)
  have hd2 : (upd (upd H1 hd (.lst [])) p0 (.tup [v, .non, .int 0])) hd = some (.lst []) := same_new hp0 _ _ upd_same
  have ntw : hd ≠ wt := ne_of_none hd2 hwt
  have it0 : ItR K (upd (upd H1 hd (.lst [])) p0 (.tup [v, .non, .int 0])) (.ref p0) ⟨t, none, 0⟩ := ⟨p0, v, .non, rfl, SqT.of upd_same, (hv.same s1).same s2, rfl⟩
  have wt1 : H1 wt = none := s2.free hwt
  refine ⟨fun m σ H' => ∃ (its : List Itm) (hs : List (Tm × Nat)) (wv hv : List V) (o5 o6 o7 o8 o9 o10 : Option V), σ = [some u, some v, some (.ref tp), some (.ref hd), some (.ref wt), o5, o6, o7, o8, o9, o10, none] ∧ Same H1 H' ∧ H' wt = some (.lst wv) ∧ H' hd = some (.lst hv) ∧ ItAll K H' wv its ∧ DtAll K H' hv (hs.map HdD) ∧
    (∀ it ∈ its, it.ok R ∧ it.dep + (it.res R).ht ≤ 201) ∧ (∀ rest, PreL (its.reverse.map (Itm.res R)) rest → PreL [t.trans R] (hs ++ rest)) ∧ hs.length + totI R its = (t.trans R).size ∧ hs.length ≤ 4000 ∧ its.length ≤ 1000 * hs.length + 1 ∧ m = totI R its, ?_, ?_⟩
  · refine ⟨_, [⟨t, none, 0⟩], [], _, [], _, _, _, _, _, _, rfl, Same.upd s2 wt1, upd_same, by rw [upd_ne ntw]; exact hd2, .cons (it0.same (same_new hwt)) .nil, .nil, ?_, fun rest h => h, by unfold totI; simp [Itm.res, Itm.f], Nat.zero_le _, Nat.le_refl _, rfl⟩
    · intro it hit
      rw [List.mem_singleton.mp hit]
      exact ⟨oT, by show 0 + (t.trans R).ht ≤ 201; omega⟩
  have hhd1 : H1 hd = none := hhd
  rintro m σ H5 ⟨its, hs, wv, hv5, o5, o6, o7, o8, o9, o10, rfl, s5, hw5, hh5, ia, da, ok5, pr, tot, h4, li, rfl⟩
  refine ⟨_, rfl, !wv.isEmpty, .inl ⟨wv, SqL.of hw5, rfl⟩, ?_⟩
  rcases List.eq_nil_or_concat its with rfl | ⟨ini, it, rfl⟩
  · cases ia
    refine iteF ?_
    have pn := pr [] .nil
    rw [List.append_nil] at pn
    have tot' : (t.trans R).size ≤ 4000 := by rw [← tot]; show hs.length + 0 ≤ 4000; omega
    exact ⟨_, rfl, hd, hv5, hs, t.trans R, rfl, SqL.of hh5, da, pn, by omega, fun H' v' sf dv => q H' v' ((s1.trans s5).trans sf) tot' dv⟩
  rw [List.concat_eq_append] at ia ok5 pr tot li ⊢
  obtain ⟨us, zs, rfl, iu, iz⟩ := ia.split
  obtain ⟨y1, rfl, iy⟩ : ∃ y1, zs = [y1] ∧ ItR K H5 y1 it := by
    cases iz with
    | cons h t => cases t; exact ⟨_, rfl, h⟩
  rw [show (!(us ++ [y1]).isEmpty) = true by cases us <;> rfl]
  have ti : totI R (ini ++ [it]) = totI R ini + (it.res R).size := by
    unfold totI
    rw [List.map_append, List.sum_append, List.map_singleton, List.sum_singleton]
  rw [ti] at tot
  rw [List.length_append] at li
  have li : ini.length + 1 ≤ 1000 * hs.length + 1 := li
  refine iteT ⟨fun σ H' => ∃ (its : List Itm) (hs : List (Tm × Nat)) (wv hv : List V) (o5 o6 o7 o8 o9 o10 : Option V), σ = [some u, some v, some (.ref tp), some (.ref hd), some (.ref wt), o5, o6, o7, o8, o9, o10, none] ∧ Same H1 H' ∧ H' wt = some (.lst wv) ∧ H' hd = some (.lst hv) ∧ ItAll K H' wv its ∧ DtAll K H' hv (hs.map HdD) ∧
    (∀ it ∈ its, it.ok R ∧ it.dep + (it.res R).ht ≤ 201) ∧ (∀ rest, PreL (its.reverse.map (Itm.res R)) rest → PreL [t.trans R] (hs ++ rest)) ∧ hs.length + totI R its = (t.trans R).size ∧ hs.length ≤ 4000 ∧ its.length ≤ 1000 * hs.length + 1 ∧ totI R its < totI R (ini ++ [it]),
    fun σ' H' ⟨its, hs, wv, hv, o5, o6, o7, o8, o9, o10, e1, e2, e3, e4, e5, e6, e7, e8, e9, e10, e11, e12⟩ => ⟨totI R its, e12, its, hs, wv, hv, o5, o6, o7, o8, o9, o10, e1, e2, e3, e4, e5, e6, e7, e8, e9, e10, e11, rfl⟩, ?_⟩
  refine ⟨_, rfl, .inl ⟨rfl, _, SqL.of hw5⟩, wt, _, y1, rfl, rfl, hw5, by simp, ?_⟩
  rw [List.dropLast_concat]
  have s6 : Same H1 (upd H5 wt (.lst us)) := Same.upd s5 wt1
  have iu6 := iu.map (fun x it h => h.updL (us := us) hw5)
  have iy6 := iy.updL (us := us) hw5
  have da6 := da.upd (us := us) hw5
  have hw6 : (upd H5 wt (.lst us)) wt = some (.lst us) := upd_same
  have hh6 : (upd H5 wt (.lst us)) hd = some (.lst hv5) := by rw [upd_ne ntw]; exact hh5
  generalize upd H5 wt (.lst us) = H6 at s6 iu6 iy6 da6 hw6 hh6 ⊢
  obtain ⟨a1, pv, bv, rfl, hs6, dpv, dbv⟩ := iy6.out
  obtain ⟨okI, okh⟩ := ok5 it (List.mem_append_right _ (List.mem_singleton.mpr rfl))
  refine ⟨a1, _, rfl, hs6, rfl, _, _, rfl, _, _, rfl, _, _, rfl, rfl, ?_⟩
  -- a metavariable that stands for something
  refine ⟨fun σ H' => ∃ (pv bv : V) (o10 : Option V), σ = [some u, some v, some (.ref tp), some (.ref hd), some (.ref wt), some pv, some bv, some (.int (it.dep : Nat)), o8, o9, o10, none] ∧ Same H6 H' ∧ Dt K H' pv it.s1.part.d ∧ BvR K H' bv it.s1.b, ?_, ?_⟩
  · cases eb : it.b with
    | none =>
      rw [Itm.s1_none eb]
      obtain rfl : bv = .non := by rw [eb] at dbv; exact dbv
      refine ⟨_, rfl, rfl, _, rfl, iteF (iteF ⟨pv, .non, _, rfl, Same.refl _, dpv, ?_⟩)⟩
      rw [eb]; rfl
    | some tab =>
      have dbv0 := dbv
      rw [eb] at dbv
      obtain ⟨pb, kb, rfl, hpb, hbi⟩ := dbv
      obtain ⟨a2, r2, rfl, hs2⟩ := Tm.dt_parts dpv
      refine ⟨_, rfl, rfl, _, rfl, iteT (vTx (v := .str it.part.hd) rfl hs2 (atI_nat (j := 0) rfl) ⟨rfl, _, rfl, ?_⟩)⟩
      by_cases e : it.part.hd = "meta"
      · obtain ⟨sv, ev⟩ := Tm.of_var e
        have hok : it.part = .var sv → ∃ t', lookA tab sv = some t' := fun ev => by
          have h2 : okP (tab.map Prod.fst) it.part := by
            have := okI
            unfold Itm.ok at this
            rw [eb] at this
            exact this.1
          exact lookA_has (h2.at_.2 sv ev)
        obtain ⟨t', et⟩ := hok ev
        rw [Itm.s1_at eb ev et]
        rw [ev] at dpv
        unfold Tm.d at dpv
        obtain ⟨a3, x3, y3, e3, hs3, k1, k2⟩ := Dt.t2 dpv
        cases e3
        obtain rfl := k2.s
        obtain ⟨vv, ev1, ev2⟩ := hbi sv t'.d (by rw [lookA_map, et]; rfl)
        refine sT e ⟨_, rfl, ?_⟩
        refine vTx rfl hs3 (atI_nat (j := 1) rfl) ⟨pb, vv, rfl, by rw [← ev1]; exact DGet.k (k := Sum.inr sv) hpb, small (by show 2 ≤ _; decide), fun pn hpn => ?_⟩
        exact ⟨pn, _, rfl, SqT.of upd_same, rfl, _, _, rfl, _, _, rfl, rfl, vv, .non, _, rfl, same_new hpn, ev2.new hpn, rfl⟩
      · rw [Itm.s1_other (fun s es => e (by rw [es]; rfl))]
        exact sF e ⟨_, _, _, rfl, Same.refl _, dpv, dbv0⟩
  rintro σ H7 ⟨pv7, bv7, o107, rfl, s7, dpv7, dbv7⟩
  have ok7 : it.s1.ok R := it.s1_ok okI
  have v7 := it.s1_var okI
  have r7 : it.s1.res R = it.res R := it.s1_res
  have d7 : it.s1.dep = it.dep := it.s1_dep
  generalize it.s1 = it7 at dpv7 dbv7 ok7 v7 r7 d7
  -- a node of the source
  refine ⟨fun σ H' => ∃ (pv bv : V) (o8 o9 o10 : Option V), σ = [some u, some v, some (.ref tp), some (.ref hd), some (.ref wt), some pv, some bv, some (.int (it.dep : Nat)), o8, o9, o10, none] ∧ Same H7 H' ∧ Dt K H' pv (it7.s2 R).part.d ∧ BvR K H' bv (it7.s2 R).b, ?_, ?_⟩
  · have s17 := s6.trans s7
    cases eb : it7.b with
    | some tab =>
      rw [Itm.s2_some eb]
      have dbv0 := dbv7
      rw [eb] at dbv7
      obtain ⟨pb, kb, rfl, hpb, hbi⟩ := dbv7
      exact ⟨_, rfl, rfl, _, rfl, iteF (iteF ⟨pv7, _, _, _, _, rfl, Same.refl _, dpv7, dbv0⟩)⟩
    | none =>
      obtain rfl : bv7 = .non := by rw [eb] at dbv7; exact dbv7
      obtain ⟨a2, r2, rfl, hs2⟩ := Tm.dt_parts dpv7
      refine ⟨_, rfl, rfl, _, rfl, iteT (vTx (v := .str it7.part.hd) rfl hs2 (atI_nat (j := 0) rfl) ⟨rfl, _, rfl, ?_⟩)⟩
      by_cases e : it7.part.hd = "node"
      · obtain ⟨c, ts, ev⟩ := Tm.of_node e
        have okt : okT R (.node c ts) := by
          have := ok7
          unfold Itm.ok at this
          rw [eb, ev] at this
          exact this
        obtain ⟨r, hr, rfl, hl⟩ := okt.at_.2 c ts rfl
        rw [Itm.s2_at eb ev (rowOf_mem oR.nd hr)]
        rw [ev] at dpv7
        unfold Tm.d at dpv7
        obtain ⟨a3, x3, y3, z3, e3, hs3, k1, k2, k3⟩ := Dt.t3 dpv7
        cases e3
        obtain rfl := k2.s
        obtain ⟨a4, ys4, rfl, hs4, da4⟩ := Dt.tn k3
        rw [Tm.ds_map] at da4
        obtain ⟨vr, er1, er2⟩ := htpl r hr
        obtain ⟨a5, x5, y5, rfl, hs5, j1, j2⟩ := Dt.t2 (er2.same s17)
        obtain ⟨a6, xs6, rfl, hs66, da66⟩ := Dt.tn j1
        obtain rfl := da66.strsE
        have htp7 := s17 _ _ htp
        refine sT e ⟨_, rfl, vTx rfl hs3 (atI_nat (j := 1) rfl) ⟨tp, .ref a5, rfl, by rw [← er1]; exact DGet.k (k := Sum.inr r.nm) htp7, ?_⟩⟩
        refine ⟨a5, _, rfl, hs5, rfl, _, _, rfl, _, _, rfl, rfl, ?_⟩
        refine ⟨_, rfl, _, rfl, vTx rfl hs3 (atI_nat (j := 2) rfl) ⟨a6, a4, r.ps.map Sum.inr, ys4, rfl, .inr (by rw [List.map_map]; exact hs66), .inr hs4, ?_, fun pd hpd => ?_⟩⟩
        · have := oR.ar r hr
          rw [List.length_map]
          exact small (by omega)
        · refine ⟨small (by show 2 ≤ _; decide), fun pn hpn => ?_⟩
          have sx := (same_new (o := .dK (mergeK [] ((r.ps.map (Sum.inr : Str → Key)).zip ys4))) hpd)
          have hpd2 := same_new (o := .tup [y5, .ref pd]) hpn _ _ (upd_same (H := H7) (a := pd) (o := .dK (mergeK [] ((r.ps.map (Sum.inr : Str → Key)).zip ys4))))
          refine ⟨pn, _, rfl, SqT.of upd_same, rfl, _, _, rfl, _, _, rfl, rfl, y5, .ref pd, _, _, _, rfl, sx.trans (same_new hpn), (j2.same sx).new hpn, pd, _, rfl, hpd2, ?_⟩
          have bz := BindR.zip (ps := r.ps) ((da4.same sx).same (same_new (o := .tup [y5, .ref pd]) hpn))
          have em : ∀ (ps : List Str) (ts : List Tm), (ps.zip ts).map (fun q => (q.1, q.2.d)) = ps.zip (ts.map Tm.d) := by
            intro ps
            induction ps with
            | nil => intro ts; rfl
            | cons p ps ih => intro ts; cases ts with
              | nil => rfl
              | cons t ts => rw [List.zip_cons_cons, List.map_cons, List.map_cons, List.zip_cons_cons, ih]
          rw [em]
          exact bz
      · rw [Itm.s2_other (fun c ts es => e (by rw [es]; rfl))]
        refine sF e ⟨_, _, _, _, _, rfl, Same.refl _, dpv7, ?_⟩
        rw [eb]; rfl
  rintro σ H8 ⟨pv8, bv8, o88, o98, o108, rfl, s8, dpv8, dbv8⟩
  have can8 : (it7.s2 R).can R := Itm.s2_can oR ok7 v7
  have r8 : (it7.s2 R).res R = it.res R := it7.s2_res.trans r7
  have d8 : (it7.s2 R).dep = it.dep := it7.s2_dep.trans d7
  generalize it7.s2 R = it8 at dpv8 dbv8 can8 r8 d8
  have s18 := (s6.trans s7).trans s8
  have ln8 := Itm.can_len can8
  refine ⟨_, rfl, pv8, it8.part, rfl, dpv8, by omega, fun H9 p9 ws9 s9 hp9 da9 => ?_⟩
  have s68 := (s7.trans s8).trans s9
  have hh9 := s68 _ _ hh6
  have hw9 := s68 _ _ hw6
  have l9 : ws9.length = it8.part.kids.length := by rw [da9.lenD, List.length_map]
  have lhv : hv5.length = hs.length := by rw [da6.lenD, List.length_map]
  refine ⟨_, rfl, .inl ⟨rfl, _, SqL.of hh9⟩, _, rfl, _, rfl, p9, ws9, rfl, .inr hp9, small (by show 2 ≤ _; decide), fun pt hpt => ?_⟩
  have hhA := same_new (o := .tup [pv8, .int (ws9.length : Nat)]) hpt _ _ hh9
  refine ⟨hd, hv5, _, rfl, rfl, hhA, smallL (by omega), ?_⟩
  have sA : Same H9 (upd H9 pt (.tup [pv8, .int (ws9.length : Nat)])) := same_new hpt
  have dhead : Dt K (upd H9 pt (.tup [pv8, .int (ws9.length : Nat)])) (.ref pt) (HdD (it8.part, it8.part.kids.length)) := by
    unfold HdD
    rw [← l9]
    exact Dt.mk2 hpt (dpv8.same s9) (.int _)
  have sB : Same H1 (upd (upd H9 pt (.tup [pv8, .int (ws9.length : Nat)])) hd (.lst (hv5 ++ [.ref pt]))) := Same.upd ((s18.trans s9).trans sA) hhd1
  have daB : DtAll K (upd (upd H9 pt (.tup [pv8, .int (ws9.length : Nat)])) hd (.lst (hv5 ++ [.ref pt]))) (hv5 ++ [.ref pt]) ((hs ++ [(it8.part, it8.part.kids.length)]).map HdD) := by
    rw [List.map_append]
    exact (((da6.same s68).same sA).append (.cons dhead .nil)).upd hhA
  have hhB : (upd (upd H9 pt (.tup [pv8, .int (ws9.length : Nat)])) hd (.lst (hv5 ++ [.ref pt]))) hd = some (.lst (hv5 ++ [.ref pt])) := upd_same
  have hwB : (upd (upd H9 pt (.tup [pv8, .int (ws9.length : Nat)])) hd (.lst (hv5 ++ [.ref pt]))) wt = some (.lst us) := by
    rw [upd_ne (Ne.symm ntw)]
    exact sA _ _ hw9
  have iuB : ItAll K (upd (upd H9 pt (.tup [pv8, .int (ws9.length : Nat)])) hd (.lst (hv5 ++ [.ref pt]))) us ini := iu6.map fun x it h => ((h.same s68).same sA).updL hhA
  have dbB : BvR K (upd (upd H9 pt (.tup [pv8, .int (ws9.length : Nat)])) hd (.lst (hv5 ++ [.ref pt]))) bv8 it8.b := ((dbv8.same s9).same sA).updL hhA
  have hpB : SqT K (upd (upd H9 pt (.tup [pv8, .int (ws9.length : Nat)])) hd (.lst (hv5 ++ [.ref pt]))) p9 ws9 := seqT_upd (Same.seqT sA hp9) hhA
  have dkB : DtAll K (upd (upd H9 pt (.tup [pv8, .int (ws9.length : Nat)])) hd (.lst (hv5 ++ [.ref pt]))) ws9 (it8.part.kids.map Tm.d) := (da9.same sA).upd hhA
  generalize upd (upd H9 pt (.tup [pv8, .int (ws9.length : Nat)])) hd (.lst (hv5 ++ [.ref pt])) = HB at sB daB hhB hwB iuB dbB hpB dkB ⊢
  have spos := (it.res R).size_pos
  have hpos := (it.res R).ht_pos
  refine ⟨_, rfl, hd, _, rfl, .inl (SqL.of hhB), _, _, rfl, rfl, _, rfl, ?_⟩
  rw [List.length_append, lhv, show hs.length + [V.ref pt].length = hs.length + 1 from rfl]
  by_cases h5 : 4000 < hs.length + 1
  · rw [decide_eq_true (show ((4000 : Int) < ((hs.length + 1 : Nat) : Int)) by omega)]
    exact iteT (iteT (qE _ (s1.trans sB) (by omega)))
  rw [decide_eq_false (show ¬ ((4000 : Int) < ((hs.length + 1 : Nat) : Int)) by omega)]
  refine iteF ⟨_, rfl, _, _, rfl, rfl, _, rfl, ?_⟩
  rw [decide_eq_false (show ¬ ((200 : Int) < (it.dep : Int)) by omega)]
  refine iteF ⟨_, rfl, .inl ⟨rfl, _, SqL.of hwB⟩, ⟨_, rfl, ?_⟩⟩
  refine ⟨p9, ws9, rfl, hpB, fun pr9 hpr => ?_⟩
  have sC := same_new (o := .tup ws9.reverse) hpr
  refine ⟨pr9, rfl, ⟨_, SqT.of upd_same⟩, fun D hD => lc_it (walk_tup (K := K) (xs := ws9.reverse)) (fun i H' => ∃ vs, Same (upd HB pr9 (.tup ws9.reverse)) H' ∧ H' D = some (.lst vs) ∧ vs.length = i ∧ ItAll K H' vs ((it8.part.kids.reverse.take i).map fun k => ⟨k, it8.b, it.dep + 1⟩)) ?_ ?_ ?_ ?_⟩
  · exact ⟨[], same_new hD, upd_same, rfl, .nil⟩
  · rintro i H' _ ⟨_, s, _⟩
    exact Same.seqT s (SqT.of upd_same)
  · rintro i x HC HC hi ⟨vs, s, hv', lv, ia'⟩ ⟨rfl, gx⟩
    obtain ⟨d, gd, dx⟩ := DtAll.getX dkB.rev gx
    rw [← List.map_reverse, List.getElem?_map] at gd
    cases e0 : it8.part.kids.reverse[i]? with
    | none => rw [e0] at gd; cases gd
    | some k =>
    rw [e0] at gd
    cases gd
    rw [List.length_reverse] at hi
    refine ⟨rfl, yes_ ⟨_, rfl, _, rfl, _, rfl, _, _, rfl, rfl, small (by show 3 ≤ _; decide), fun pn hpn => ?_⟩⟩
    have hv2 := same_new (o := .tup [x, bv8, .int ((it.dep : Int) + 1)]) hpn _ _ hv'
    refine ⟨vs, hv2, smallL (by omega), vs ++ [.ref pn], Same.upd (s.trans (same_new hpn)) hD, upd_same, by rw [List.length_append, lv]; rfl, ?_⟩
    rw [List.take_add_one, e0, List.map_append]
    refine ItAll.app (ia'.map fun x it h => (h.same (same_new hpn)).updL hv2) (.cons (ItR.updL ?_ hv2) .nil)
    exact ⟨pn, x, bv8, rfl, SqT.of upd_same, ((dx.same sC).same s).new hpn, ((dbB.same sC).same s).same (same_new hpn)⟩
  · rintro HD ⟨vs, s, hv', lv, ia'⟩
    rw [List.length_reverse, l9, show it8.part.kids.length = it8.part.kids.reverse.length by rw [List.length_reverse], List.take_length] at ia'
    have sD := sC.trans s
    have hwD := sD _ _ hwB
    have hhD := sD _ _ hhB
    have nwD : wt ≠ D := ne_of_none (sC _ _ hwB) hD
    have lus : us.length = ini.length := iuB.len
    have lvs : vs.length = it8.part.kids.length := by rw [lv, List.length_reverse, l9]
    have etot : totI R (it8.part.kids.reverse.map fun k => (⟨k, it8.b, it.dep + 1⟩ : Itm)) = ((it8.part.kids.map (it8.f R)).map Tm.size).sum := by
      unfold totI
      rw [List.map_map, List.map_map, List.map_reverse, List.sum_reverse]
      rfl
    have esz := Itm.can_size can8
    rw [r8] at esz
    refine ⟨wt, D, _, _, rfl, rfl, hwD, hv', small (by omega), ini ++ it8.part.kids.reverse.map (fun k => ⟨k, it8.b, it.dep + 1⟩), hs ++ [(it8.part, it8.part.kids.length)], us ++ vs, hv5 ++ [.ref pt], _, _, _, _, _, _, rfl, Same.upd (sB.trans sD) wt1, upd_same, by rw [upd_ne ntw]; exact hhD, ?_, (daB.same sD).upd hwD, ?_, ?_, ?_, ?_, ?_, ?_⟩
    · exact ItAll.app (iuB.map fun x it h => (h.same sD).updL hwD) (ia'.map fun x it h => h.updL hwD)
    · intro jt hjt
      rcases List.mem_append.mp hjt with h | h
      · exact ok5 jt (List.mem_append_left _ h)
      · obtain ⟨k, hk, rfl⟩ := List.mem_map.mp h
        have hk := List.mem_reverse.mp hk
        have hkid := Itm.can_kid can8 hk
        have hht := Itm.can_ht can8 hk
        rw [r8] at hht
        refine ⟨?_, ?_⟩
        · unfold Itm.ok at hkid ⊢; exact hkid
        · show it.dep + 1 + (it8.f R k).ht ≤ 201
          omega
    · intro rest hrest
      rw [List.reverse_append, List.map_append, ← List.map_reverse, List.reverse_reverse, List.map_map] at hrest
      have h1 := Itm.can_pre can8 (rest := ini.reverse.map (Itm.res R)) hrest
      rw [r8] at h1
      rw [List.append_assoc]
      refine pr _ ?_
      rw [List.reverse_append, List.map_append]
      exact h1
    · have : totI R (ini ++ it8.part.kids.reverse.map (fun k => (⟨k, it8.b, it.dep + 1⟩ : Itm))) = totI R ini + ((it8.part.kids.map (it8.f R)).map Tm.size).sum := by
        rw [← etot]; unfold totI; rw [List.map_append, List.sum_append]
      rw [this, List.length_append, show hs.length + [(it8.part, it8.part.kids.length)].length = hs.length + 1 from rfl]
      omega
    · rw [List.length_append, show hs.length + [(it8.part, it8.part.kids.length)].length = hs.length + 1 from rfl]
      omega
    · rw [List.length_append, List.length_append, List.length_map, List.length_reverse, show hs.length + [(it8.part, it8.part.kids.length)].length = hs.length + 1 from rfl]
      omega
    · have : totI R (ini ++ it8.part.kids.reverse.map (fun k => (⟨k, it8.b, it.dep + 1⟩ : Itm))) = totI R ini + ((it8.part.kids.map (it8.f R)).map Tm.size).sum := by
        rw [← etot]; unfold totI; rw [List.map_append, List.sum_append]
      rw [this, ti]
      omega
end
end PK
namespace PK
open PySem L2
/-! words with one letter of a to m: which one tells them apart -/
abbrev LM : Str := "abcdefghijklm"
abbrev OM : Str := "nopqrstuvwxyz0123456789_"
theorem lm_len : LM.cps.toList.length = 13 := by decide +kernel
theorem om_len : OM.cps.toList.length = 24 := by decide +kernel
theorem lm_om : ∀ s ∈ OM.cps.toList, s ∉ LM.cps.toList := by decide +kernel
theorem lm_let : ∀ s ∈ LM.cps.toList, s ∈ LET.cps.toList := by decide +kernel
theorem om_oth : ∀ s ∈ OM.cps.toList, s ∈ OTH.cps.toList := by decide +kernel
theorem om_let : ∀ s ∈ OM.cps.toList.take 13, s ∈ LET.cps.toList := by decide +kernel
/-- the sign of number j, mod 13 -/
def lmAt (j : Int) : Nat := LM.cps.toList.getD (j % 13).toNat 0
/-- of the letters a to m the word has just this one -/
structure Tag (x : Str) (c : Nat) : Prop where
  lm : c ∈ LM.cps.toList
  has : c ∈ x.cps.toList
  only : ∀ s ∈ x.cps.toList, s = c ∨ s ∈ OM.cps.toList
theorem Tag.one {x : Str} {c d : Nat} (a : Tag x c) (b : Tag x d) : c = d := (b.only c a.has).elim id fun z => absurd a.lm (lm_om c z)
theorem lmAt_inj {i j : Int} (h : lmAt i = lmAt j) : i % 13 = j % 13 := by
  have key : ∀ a, a < 13 → ∀ b, b < 13 → LM.cps.toList.getD a 0 = LM.cps.toList.getD b 0 → a = b := by decide +kernel
  have := key (i % 13).toNat (by omega) (j % 13).toNat (by omega) h
  omega
theorem lmAt_mem (j : Int) : lmAt j ∈ LM.cps.toList := by
  have key : ∀ a, a < 13 → LM.cps.toList.getD a 0 ∈ LM.cps.toList := by decide +kernel
  exact key _ (by omega)
theorem lm_ix {j : Int} {H : Hp} {Q : VK} (q : Q (.str (one (lmAt j))) H) : rIxS (.str LM) (.int (j % 13)) H Q := by
  have hj : (j % 13).toNat < LM.cps.toList.length := by rw [lm_len]; omega
  refine ⟨LM, j % 13, lmAt j, rfl, rfl, by rw [len_list, lm_len]; exact small (by decide), ?_, q⟩
  have e : j % 13 = (((j % 13).toNat : Nat) : Int) := by omega
  rw [e]
  refine atI_nat ?_
  unfold lmAt
  rw [List.getElem?_eq_getElem hj, List.getD_eq_getElem?_getD, List.getElem?_eq_getElem hj]
  rfl
theorem om_ix {n : Nat} (hn : n ≤ 24) {d : Int} {H : Hp} {Q : VK} (h0 : 0 ≤ d) (h1 : d < (n : Int)) (q : ∀ s, s ∈ OM.cps.toList.take n → Q (.str (one s)) H) : rIxS (.str OM) (.int d) H Q := by
  obtain ⟨j, rfl⟩ : ∃ j : Nat, d = j := ⟨d.toNat, by omega⟩
  have hj : j < OM.cps.toList.length := by rw [om_len]; omega
  refine ⟨OM, j, OM.cps.toList[j], rfl, rfl, by rw [len_list, om_len]; exact small (by decide), atI_nat (List.getElem?_eq_getElem hj), q _ ?_⟩
  exact List.mem_take_iff_getElem.mpr ⟨j, by omega, rfl⟩
theorem two_lm {x : Str} {a b : Nat} (ha : a ∈ x.cps.toList) (hb : b ∈ x.cps.toList) (la : a ∈ LM.cps.toList) (lb : b ∈ LM.cps.toList) (ne : a ≠ b) (c : Nat) (t : Tag x c) : False := by
  have e1 := (t.only a ha).elim id fun z => absurd la (lm_om a z)
  have e2 := (t.only b hb).elim id fun z => absurd lb (lm_om b z)
  exact ne (e1.trans e2.symm)
theorem no_get (c : Nat) : ¬ Tag "get" c := two_lm (a := 103) (b := 101) (by decide +kernel) (by decide +kernel) (by decide +kernel) (by decide +kernel) (by decide) c
theorem no_minus (c : Nat) : ¬ Tag "minus" c := two_lm (a := 109) (b := 105) (by decide +kernel) (by decide +kernel) (by decide +kernel) (by decide +kernel) (by decide) c
def spLWord : Sp := fun vs H Q _ => ∃ (l c : Addr) (k s : Int), vs = [.ref l, .int k, .int s] ∧ Pool H l c ∧ ∀ (H' : Hp) (x : Str), Ext l c H H' → Wd x → Tag x (lmAt (k + s)) → x ∉ (["get", "set", "plus", "minus", "new"] : List Str) → Q (.str x) H'
section
variable {P : Program} {w : World} {K : PySem.W.Frag} {mg : Str → Option Value} {base : Heap}
abbrev s_law_word : Stmt := topS 108
theorem sc_law_word : FnScope ["pool", "k", "shift", "letters", "others", "size", "at", "row", "place", "word"] ["pool", "k", "shift"] (defScope s_law_word) := ⟨rfl, rfl, rfl, by decide +kernel, rfl, by decide +kernel, by decide +kernel⟩
-- slots: 0:pool 1:k 2:shift 3:letters 4:others 5:size 6:at 7:row 8:place 9:word
theorem ok_lword {f : Addr} {fd : FuncData} (F : Fun K "_law_word" "_law_word" s_law_word f fd) (T : Txt K mg) (C_law_take : C8.Cal P w K mg base 2 "_law_take" (spTake 2) []) : FnOk P w K mg base CX0 3 f fd ["pool", "k", "shift"] spLWord := by
  refine F.ok sc_law_word (fun vs H Q E h => ?_) (fun cdv A outer s H vs Q E hr h => ?_)
  · obtain ⟨_, _, _, _, rfl, _⟩ := h
    rfl
  obtain ⟨l, c, k, sh, rfl, P0, q⟩ := h
  refine ⟨_, (pss_cons (ps_set (i := 3) sc_law_word.nd rfl (Or.inl rfl) pe_str)
    (pss_cons (ps_set (i := 4) sc_law_word.nd rfl (Or.inl rfl) pe_str)
    (pss_cons (ps_set (i := 5) sc_law_word.nd rfl (Or.inl rfl) (pe_op op_add pe_int (C8.pe_c C_law_take hr (by decide) rfl (pa_cons (pv 0) (pa_cons pe_int pa_nil)))))
    (pss_cons (ps_set (i := 6) sc_law_word.nd rfl (Or.inl rfl) (C8.pe_c C_law_take hr (by decide) rfl (pa_cons (pv 0) (pa_cons (pv 5) pa_nil))))
    (pss_cons (ps_set (i := 7) sc_law_word.nd rfl (Or.inl rfl) (pe_lst (pa_cons (pe_ix ix_str (pv 3) (pe_op op_mod (pe_callTy call_int1 (by rfl) T.z_int (by decide +kernel) (pa_cons (pe_op op_add (pv 1) (pv 2)) pa_nil)) pe_int) (fun _ _ => rfl)) pa_nil)))
    (pss_cons (ps_for PassesOwn.never rfl (pi_range2 (by rfl) T.z_range (pa_cons pe_int (pa_cons (pv 5) pa_nil))) (pg_name (i := 8) sc_law_word.nd rfl (Or.inl rfl)) (pss_one (ps_expr (pe_bm PySem.F.plainAttrs_list PySem.F.slot_list_append PySem.F.type_list_append mt_append (pv 7) (pa_cons (pe_ix ix_str (pv 4) (C8.pe_c C_law_take hr (by decide) rfl (pa_cons (pv 0) (pa_cons pe_int pa_nil))) (fun _ _ => rfl)) pa_nil)))))
    (C8.pss_cut (ps_if (pt_cmpR op_gt (pv 6) pe_int (nomark _)) (pss_cons (ps_asg (pe_ix ix_str (pv 4) (C8.pe_c C_law_take hr (by decide) rfl (pa_cons (pv 0) (pa_cons pe_int pa_nil))) (fun _ _ => rfl)) (pg_sub (pv 7) pe_int set_list))
    (pss_one (ps_asg (pe_ix ix_str (pv 3) (pe_op op_mod (pe_callTy call_int1 (by rfl) T.z_int (by decide +kernel) (pa_cons (pe_op op_add (pv 1) (pv 2)) pa_nil)) pe_int) (fun _ _ => rfl)) (pg_sub (pv 7) (pv 6) set_list)))) pss_nil)
    (pss_cons (ps_set (i := 9) sc_law_word.nd rfl (Or.inl rfl) (pe_join pe_str (pv 7)))
    (pss_one (ps_ret (pe_ifExp (pt_cmpR op_in_seq (pv 9) (pe_tup (pa_cons pe_str (pa_cons pe_str (pa_cons pe_str pa_nil)))) rfl) (pe_op op_add_str (pv 9) pe_str) (pv 9)))))))))))), ?_⟩
  refine vTake rfl P0 (by decide) (by decide) fun d H1 d0 d12 x1 => ?_
  obtain ⟨m, rfl⟩ : ∃ m : Nat, d = m := ⟨d.toNat, by omega⟩
  refine ⟨_, _, rfl, rfl, ?_⟩
  refine ⟨_, rfl, _, rfl, l, c, 1 + (m : Int), False, rfl, x1.pool, by omega, by omega, .inl (Nat.le_refl 2), fun at_ H2 a0 a1 x2 => ?_⟩
  have x2' := x1.trans x2
  refine ⟨_, rfl, ⟨_, rfl, ⟨_, rfl, _, _, rfl, rfl, .inl ⟨_, rfl, _, _, rfl, rfl, (by show (0 : Int) < 13; decide), lm_ix ⟨small (by show 1 ≤ _; decide), fun R hR => ?_⟩⟩⟩⟩⟩
  have x3 := x2'.new (o := .lst [.str (one (lmAt (k + sh)))]) P0 hR
  have nR : R ≠ l := (x2'.pool.ne hR).1
  have hR0 : H R = none := x2'.free P0 hR
  have cl := lmAt_mem (k + sh)
  refine ⟨_, rfl, 1, 1 + (m : Int), rfl, ⟨by decide, by decide, by omega, by omega⟩, for_range (lo := 1) (n := (1 + (m : Int) - 1).toNat) (fun i σ H' => ∃ (row : List Nat) (b d : Option V), σ = [some (.ref l), some (.int k), some (.int sh), some (.str LM), some (.str OM), some (.int (1 + m)), some (.int at_), some (.ref R), b, d] ∧ Ext l c H H' ∧
    H' R = some (.lst ((lmAt (k + sh) :: row).map fun s => V.str (one s))) ∧ row.length = i ∧ ∀ s ∈ row, s ∈ OM.cps.toList) ?_ ?_ ?_⟩
  · exact ⟨[], none, none, rfl, x3, upd_same, rfl, fun _ h => nomatch h⟩
  · rintro i σ H' hi ⟨row, b, d, rfl, x, hr1, lr, ho⟩
    have hR1 := hr1
    refine ⟨_, rfl, .inl ⟨rfl, _, SqL.of hR1⟩, ⟨_, rfl, vTake rfl x.pool (by decide) (by decide) fun e H3 e0 e1 y => om_ix (Nat.le_refl 24) e0 e1 fun s hs => ?_⟩⟩
    have hR2 := y.keep _ _ nR hR1
    refine ⟨R, _, _, rfl, rfl, hR2, smallL (by rw [List.length_map, List.length_cons]; omega), row ++ [s], _, _, rfl, (x.trans y).upd P0 hR0, ?_, by rw [List.length_append, lr]; rfl, fun z hz => ?_⟩
    · rw [upd_same, List.map_cons, List.map_cons, List.map_append]; rfl
    · rcases List.mem_append.mp hz with h | h
      · exact ho z h
      · rw [List.mem_singleton.mp h]; exact List.mem_of_mem_take hs
  rintro σ H' ⟨row, b, d, rfl, x, hr1, lr, ho⟩
  have lm : row.length = m := by rw [lr]; omega
  -- what the word is made of
  refine ⟨fun σ H' => ∃ (sg : List Nat) (b d : Option V), σ = [some (.ref l), some (.int k), some (.int sh), some (.str LM), some (.str OM), some (.int (1 + m)), some (.int at_), some (.ref R), b, d] ∧ Ext l c H H' ∧ H' R = some (.lst (sg.map fun s => V.str (one s))) ∧
    sg.length = 1 + m ∧ lmAt (k + sh) ∈ sg ∧ (∀ s ∈ sg, s = lmAt (k + sh) ∨ s ∈ OM.cps.toList) ∧ ∃ f r, sg = f :: r ∧ f ∈ LET.cps.toList, ?_, ?_⟩
  · refine ⟨_, rfl, _, _, rfl, rfl, _, rfl, ite2 (fun e => ?_) (fun e => ?_)⟩
    · have a1' : 0 < at_ := of_decide_eq_true e
      refine ⟨_, rfl, vTake rfl x.pool (by decide) (by decide) fun e1 H5 e0 e13 y => om_ix (n := 13) (by decide) e0 e13 fun o hoo => ?_⟩
      have hR5 := y.keep _ _ nR hr1
      refine ⟨_, rfl, R, _, 0, 0, rfl, rfl, hR5, ixN_of (by decide) (by rw [List.length_map, List.length_cons]; omega), ?_⟩
      refine ⟨_, rfl, ⟨_, rfl, ⟨_, rfl, _, _, rfl, rfl, .inl ⟨_, rfl, _, _, rfl, rfl, (by show (0 : Int) < 13; decide), lm_ix ⟨_, rfl, _, rfl, R, _, at_, at_.toNat, rfl, rfl, upd_same, ixN_of a0 (by rw [List.length_set, List.length_map, List.length_cons]; omega), ?_⟩⟩⟩⟩⟩
      refine ⟨(o :: row).set at_.toNat (lmAt (k + sh)), _, _, rfl, ((x.trans y).upd P0 hR0).upd P0 hR0, ?_, ?_, ?_, ?_, ?_⟩
      · rw [upd_same, List.map_set]; rfl
      · rw [List.length_set, List.length_cons]; omega
      · exact List.mem_set (by rw [List.length_cons]; omega) _
      · intro z hz
        rcases List.mem_or_eq_of_mem_set hz with h | h
        · rcases List.mem_cons.mp h with h | h
          · rw [h]; exact .inr (List.mem_of_mem_take hoo)
          · exact .inr (ho z h)
        · exact .inl h
      · obtain ⟨j, ej⟩ : ∃ j, at_.toNat = j + 1 := ⟨at_.toNat - 1, by omega⟩
        rw [ej]
        exact ⟨o, _, rfl, om_let o hoo⟩
    · exact ⟨lmAt (k + sh) :: row, _, _, rfl, x, hr1, by rw [List.length_cons]; omega, .head _, fun z hz => (List.mem_cons.mp hz).imp id (ho z), _, _, rfl, lm_let _ cl⟩
  · rintro σ' H4 ⟨sg, b, d, rfl, x4, hsg, ls, hc, hon, f, r, rfl, hf⟩
    have hall : ∀ s ∈ f :: r, s ∈ OTH.cps.toList := fun s hs => (hon s hs).elim (fun e => by rw [e]; exact let_oth _ (lm_let _ cl)) (om_oth s)
    have ew : (Txt.join "" ((f :: r).map one)).cps.toList = f :: r := txt_join _
    have hw : Wd (Txt.join "" ((f :: r).map one)) := Wd.of ew hf (fun z hz => hall z (.tail _ hz)) (by rw [List.length_cons] at ls; omega)
    have ht : Tag (Txt.join "" ((f :: r).map one)) (lmAt (k + sh)) := ⟨cl, by rw [ew]; exact hc, by rw [ew]; exact hon⟩
    refine ⟨⟨_, rfl⟩, _, rfl, "", R, (f :: r).map one, rfl, rfl, .inl (SqL.of (by rw [List.map_map]; exact hsg)), by rw [one_sum, ls]; show 1 + m + _ * 0 ≤ _; omega, ?_⟩
    generalize Txt.join "" ((f :: r).map one) = wd at ew hw ht
    refine ⟨_, rfl, small (by show 3 ≤ _; decide), fun q1 hq1 => ⟨q1, _, rfl, .inr (SqT.of upd_same), rfl, flat_strs ["set", "new", "plus"], _, rfl, ?_⟩⟩
    rw [show inV (V.str wd) [V.str "set", .str "new", .str "plus"] = decide (wd ∈ (["set", "new", "plus"] : List Str)) from inV_str wd ["set", "new", "plus"]]
    have y := x4.new (o := .tup [V.str "set", .str "new", .str "plus"]) P0 hq1
    by_cases hin : wd ∈ (["set", "new", "plus"] : List Str)
    · rw [decide_eq_true hin]
      have l4 : ∀ z ∈ (["set", "new", "plus"] : List Str), z.length ≤ 4 ∧ z ++ "_" ∉ (["get", "set", "plus", "minus", "new"] : List Str) := by decide +kernel
      have e2 : (wd ++ "_").cps.toList = f :: (r ++ [95]) := by
        show (wd.cps ++ #[95]).toList = _
        rw [Array.toList_append, ew]; rfl
      have lw := (l4 wd hin).1
      rw [len_list, ew, List.length_cons] at lw
      refine iteT ⟨_, rfl, _, _, rfl, rfl, small (by rw [len_list, ew, List.length_cons]; show r.length + 1 + 1 ≤ _; omega), q _ _ y ?_ ⟨cl, ?_, ?_⟩ (l4 wd hin).2⟩
      · refine Wd.of e2 hf (fun z hz => ?_) (by rw [List.length_append]; show r.length + 1 ≤ 11; omega)
        rcases List.mem_append.mp hz with h | h
        · exact hall z (.tail _ h)
        · rw [List.mem_singleton.mp h]; decide +kernel
      · rw [e2]
        exact List.mem_append_left [95] (show lmAt (k + sh) ∈ f :: r from hc)
      · intro z hz
        rw [e2] at hz
        rcases List.mem_append.mp (show z ∈ (f :: r) ++ [95] from hz) with h | h
        · exact hon z h
        · rw [List.mem_singleton.mp h]; exact .inr (by decide +kernel)
    · rw [decide_eq_false hin]
      refine iteF ⟨_, rfl, q _ _ y hw ht fun z => ?_⟩
      rcases (by simpa using z : wd = "get" ∨ wd = "set" ∨ wd = "plus" ∨ wd = "minus" ∨ wd = "new") with h | h | h | h | h
      · rw [h] at ht; exact no_get _ ht
      · exact hin (by rw [h]; decide)
      · exact hin (by rw [h]; decide)
      · rw [h] at ht; exact no_minus _ ht
      · exact hin (by rw [h]; decide)
end
end PK
namespace PK
open PySem L2
/-! drawn constructors -/
structure Con where
  nm : Str
  ar : Nat
  kd : Str
  pl : List Int
def Con.d (c : Con) : PyData := .tuple [.str c.nm, .int (c.ar : Nat), .str c.kd, .tuple (c.pl.map .int)]
theorem DtAll.take {K : PySem.W.Frag} {H : Hp} : ∀ {xs : List V} {ds : List PyData} (n : Nat), DtAll K H xs ds → DtAll K H (xs.take n) (ds.take n)
  | _, _, 0, _ => by rw [List.take_zero, List.take_zero]; exact .nil
  | _, _, n + 1, .nil => .nil
  | _, _, n + 1, .cons h t => .cons h (t.take n)
theorem DtAll.drop {K : PySem.W.Frag} {H : Hp} : ∀ {xs : List V} {ds : List PyData} (n : Nat), DtAll K H xs ds → DtAll K H (xs.drop n) (ds.drop n)
  | _, _, 0, h => h
  | _, _, n + 1, .nil => .nil
  | _, _, n + 1, .cons _ t => t.drop n
/-- places as a constructor may have them -/
def plOk (m : Nat) (ps : List Int) : Prop := ps.Nodup ∧ (∀ p ∈ ps, 0 ≤ p ∧ p < (m : Int)) ∧ ps.length ≤ m
/-- a constructor as it was drawn -/
structure Con.good (x : Con) : Prop where
  wd : Wd x.nm
  tag : ∃ c, Tag x.nm c
  no : x.nm ∉ (["get", "set", "plus", "minus", "new"] : List Str)
  kd : x.kd ∈ (["value", "plain"] : List Str)
  pl : plOk x.ar x.pl
theorem plOk.put {i : Nat} {ns : List Int} (h : plOk i ns) (e : Nat) : plOk (i + 1) (ns.take e ++ [0 + (i : Int)] ++ ns.drop e) := by
  have per : (ns.take e ++ [0 + (i : Int)] ++ ns.drop e).Perm ((0 + (i : Int)) :: ns) := by
    rw [List.append_assoc, List.singleton_append]
    refine List.perm_middle.trans ?_
    rw [List.take_append_drop]
  refine ⟨per.nodup_iff.mpr (List.nodup_cons.mpr ⟨fun z => ?_, h.1⟩), fun p hp => ?_, by rw [per.length_eq, List.length_cons]; have := h.2.2; omega⟩
  · have := (h.2.1 _ z).2; omega
  · rcases List.mem_cons.mp (per.mem_iff.mp hp) with e1 | e1
    · omega
    · have := h.2.1 p e1; omega
theorem plOk.more {i : Nat} {ns : List Int} (h : plOk i ns) : plOk (i + 1) ns := ⟨h.1, fun p hp => by have := h.2.1 p hp; omega, by have := h.2.2; omega⟩
def spPlaces (K : PySem.W.Frag) : Sp := fun vs H Q _ => ∃ (l c : Addr) (m : Nat), vs = [.ref l, .int (m : Nat)] ∧ Pool H l c ∧ m ≤ 8 ∧ ∀ (H' : Hp) (v : V) (ns : List Int), Ext l c H H' → Dt K H' v (.tuple (ns.map .int)) → plOk m ns → Q v H'
def spCons (K : PySem.W.Frag) : Sp := fun vs H Q _ => ∃ (l c : Addr), vs = [.ref l] ∧ Pool H l c ∧ ∀ (H' : Hp) (p : Addr) (cv : List V) (cs : List Con), Ext l c H H' → H p = none → H' p = some (.lst cv) → DtAll K H' cv (cs.map Con.d) → (cs.map Con.nm).Nodup → (∀ x ∈ cs, x.ar ≤ 6) → (∃ x ∈ cs, x.ar = 2) → cs.length ≤ 7 → (∀ x ∈ cs, x.good) → Q (.ref p) H'
section
variable {P : Program} {w : World} {K : PySem.W.Frag} {mg : Str → Option Value} {base : Heap}
abbrev s_law_places : Stmt := topS 109
theorem sc_law_places : FnScope ["pool", "many", "places", "place"] ["pool", "many"] (defScope s_law_places) := ⟨rfl, rfl, rfl, by decide +kernel, rfl, by decide +kernel, by decide +kernel⟩
-- slots: 0:pool 1:many 2:places 3:place
theorem ok_places {f : Addr} {fd : FuncData} (F : Fun K "_law_places" "_law_places" s_law_places f fd) (T : Txt K mg) (C_law_take : C8.Cal P w K mg base 2 "_law_take" (spTake 2) []) : FnOk P w K mg base CX0 3 f fd ["pool", "many"] (spPlaces K) := by
  refine F.ok sc_law_places (fun vs H Q E h => ?_) (fun cdv A outer s H vs Q E hr h => ?_)
  · obtain ⟨_, _, _, rfl, _⟩ := h
    rfl
  obtain ⟨l, c, m, rfl, P0, hm, q⟩ := h
  refine ⟨_, (pss_cons (ps_set (i := 2) sc_law_places.nd rfl (Or.inl rfl) (pe_lst pa_nil))
    (pss_cons (ps_for PassesOwn.never rfl (pi_range1 (by rfl) T.z_range (pa_cons (pv 1) pa_nil)) (pg_name (i := 3) sc_law_places.nd rfl (Or.inl rfl)) (pss_one (ps_if (pt_cmpR op_gt (C8.pe_c C_law_take hr (by decide) rfl (pa_cons (pv 0) (pa_cons pe_int pa_nil))) pe_int (nomark _)) (pss_one (ps_expr (pe_bm PySem.F.plainAttrs_list PySem.F.slot_list_insert PySem.F.type_list_insert mt_insert (pv 2) (pa_cons (C8.pe_c C_law_take hr (by decide) rfl (pa_cons (pv 0) (pa_cons (pe_op op_add (pe_callB call_len_seq (by rfl) T.z_len (by decide +kernel) (pa_cons (pv 2) pa_nil)) pe_int) pa_nil))) (pa_cons (pv 3) pa_nil))))) pss_nil)))
    (pss_one (ps_ret (pe_callTy call_tuple_of (by rfl) T.z_tuple (by decide +kernel) (pa_cons (pv 2) pa_nil)))))), ?_⟩
  refine ⟨Nat.zero_le _, fun L hL => ?_⟩
  have x1 := (Ext.refl P0).new (o := .lst []) P0 hL
  have nL : L ≠ l := (P0.ne hL).1
  refine ⟨_, rfl, (m : Int), rfl, by omega, by omega, for_range (lo := 0) (n := (m : Int).toNat) (fun i σ H' => ∃ (ns : List Int) (o : Option V), σ = [some (.ref l), some (.int (m : Nat)), some (.ref L), o] ∧ Ext l c H H' ∧ H' L = some (.lst (ns.map V.int)) ∧ ns.length ≤ i ∧ plOk i ns) ?_ ?_ ?_⟩
  · exact ⟨[], _, rfl, x1, upd_same, Nat.le_refl _, List.nodup_nil, (fun _ h => absurd h List.not_mem_nil), Nat.le_refl _⟩
  · rintro i σ H' hi ⟨ns, o, rfl, x, hn, ln, op⟩
    refine vTake rfl x.pool (by decide) (by decide) fun d H2 d0 d1 x2 => ⟨_, _, rfl, rfl, _, rfl, ite2 (fun _ => ?_) (fun _ => ?_)⟩
    · have hn2 := x2.keep _ _ nL hn
      refine ⟨_, rfl, .inl ⟨rfl, _, SqL.of hn2⟩, ?_⟩
      refine ⟨_, rfl, _, rfl, L, _, rfl, .inl (SqL.of hn2), _, _, rfl, rfl, l, c, _, False, rfl, x2.pool, by omega, by rw [List.length_map]; omega, .inl (Nat.le_refl 2), fun e H3 e0 e1 x3 => ?_⟩
      have hn3 := x3.keep _ _ nL hn2
      rw [List.length_map] at e1
      refine ⟨_, rfl, L, _, e, _, rfl, rfl, hn3, by rw [List.length_map]; exact smallL (by omega), e0, by omega, ?_⟩
      refine ⟨ns.take e.toNat ++ [0 + (i : Int)] ++ ns.drop e.toNat, _, rfl, ((x.trans x2).trans x3).upd P0 hL, ?_, ?_, op.put _⟩
      · rw [upd_same, List.map_append, List.map_append, List.map_take, List.map_drop]; rfl
      · rw [List.length_append, List.length_append, List.length_take, List.length_drop]; show min _ _ + 1 + _ ≤ _; omega
    · exact ⟨ns, _, rfl, x.trans x2, x2.keep _ _ nL hn, by omega, op.more⟩
  rintro σ H' ⟨ns, o, rfl, x, hn, ln, op⟩
  refine ⟨_, rfl, L, _, rfl, .inl ⟨SqL.of hn, fun p hp => ?_⟩⟩
  exact q _ _ ns (x.new P0 hp) (.tup (SqT.of upd_same) (DtAll.ints ns)) (by rw [show ((m : Nat) : Int).toNat = m by omega] at op; exact op)
theorem tag_nd {sh : Int} : ∀ {cs : List Con} {b : Nat}, b + cs.length ≤ 13 → (∀ (j : Nat) (x : Con), cs[j]? = some x → Tag x.nm (lmAt ((b + j : Nat) + sh))) → (cs.map Con.nm).Nodup
  | [], _, _, _ => List.nodup_nil
  | y :: cs, b, hl, h => by
    rw [List.length_cons] at hl
    rw [List.map_cons, List.nodup_cons]
    refine ⟨fun z => ?_, tag_nd (sh := sh) (b := b + 1) (by omega) fun j x e => ?_⟩
    · obtain ⟨x, hx, e⟩ := List.mem_map.mp z
      obtain ⟨j, hj, rfl⟩ := List.getElem_of_mem hx
      have t1 := h 0 y rfl
      have t2 := h (j + 1) _ (by rw [List.getElem?_cons_succ]; exact List.getElem?_eq_getElem hj)
      rw [e] at t2
      have := lmAt_inj (t1.one t2)
      omega
    · have := h (j + 1) x (by rw [List.getElem?_cons_succ]; exact e)
      rw [show b + 1 + j = b + (j + 1) by omega]
      exact this
theorem pick_int {xs : List Nat} {e : Int} (h0 : 0 ≤ e) (h1 : e < (xs.length : Nat)) : ∃ m : Nat, atI (xs.map fun n => V.int (n : Nat)) e = some (.int (m : Nat)) ∧ m ∈ xs := by
  obtain ⟨j, rfl⟩ : ∃ j : Nat, e = j := ⟨e.toNat, by omega⟩
  have hj : j < xs.length := by omega
  exact ⟨xs[j], atI_nat (by rw [List.getElem?_map, List.getElem?_eq_getElem hj]; rfl), List.getElem_mem hj⟩
theorem pick_str {xs : List Str} {e : Int} (h0 : 0 ≤ e) (h1 : e < (xs.length : Nat)) : ∃ m : Str, atI (xs.map V.str) e = some (.str m) ∧ m ∈ xs := by
  obtain ⟨j, rfl⟩ : ∃ j : Nat, e = j := ⟨e.toNat, by omega⟩
  have hj : j < xs.length := by omega
  exact ⟨xs[j], atI_nat (by rw [List.getElem?_map, List.getElem?_eq_getElem hj]; rfl), List.getElem_mem hj⟩
theorem vCon {K : PySem.W.Frag} {H : Hp} {p : Addr} {x : Con} {v : V} (hp : H p = none) (hv : Dt K H v (.tuple (x.pl.map .int))) : Dt K (upd H p (.tup [.str x.nm, .int (x.ar : Nat), .str x.kd, v])) (.ref p) x.d :=
  .tup (SqT.of upd_same) (.cons (.str _) (.cons (.int _) (.cons (.str _) (.cons (hv.new hp) .nil))))
abbrev s_law_constructors : Stmt := topS 110
theorem sc_law_constructors : FnScope ["pool", "shift", "found", "k", "many", "kind"] ["pool"] (defScope s_law_constructors) := ⟨rfl, rfl, rfl, by decide +kernel, rfl, by decide +kernel, by decide +kernel⟩
-- slots: 0:pool 1:shift 2:found 3:k 4:many 5:kind
theorem ok_cons {f : Addr} {fd : FuncData} (F : Fun K "_law_constructors" "_law_constructors" s_law_constructors f fd) (T : Txt K mg) (C_law_take : C8.Cal P w K mg base 2 "_law_take" (spTake 2) []) (C_law_word : C8.Cal P w K mg base 3 "_law_word" spLWord [])
    (C_law_places : C8.Cal P w K mg base 3 "_law_places" (spPlaces K) []) : FnOk P w K mg base CX0 4 f fd ["pool"] (spCons K) := by
  refine F.ok sc_law_constructors (fun vs H Q E h => ?_) (fun cdv A outer s H vs Q E hr h => ?_)
  · obtain ⟨_, _, rfl, _⟩ := h
    rfl
  obtain ⟨l, c, rfl, P0, q⟩ := h
  refine ⟨_, (pss_cons (ps_set (i := 1) sc_law_constructors.nd rfl (Or.inl rfl) (C8.pe_c C_law_take hr (by decide) rfl (pa_cons (pv 0) (pa_cons pe_int pa_nil))))
    (pss_cons (ps_set (i := 2) sc_law_constructors.nd rfl (Or.inl rfl) (pe_lst pa_nil))
    (pss_cons (ps_for PassesOwn.never rfl (pi_range1 (by rfl) T.z_range (pa_cons (pe_op op_add pe_int (C8.pe_c C_law_take hr (by decide) rfl (pa_cons (pv 0) (pa_cons pe_int pa_nil)))) pa_nil)) (pg_name (i := 3) sc_law_constructors.nd rfl (Or.inl rfl)) (pss_cons (ps_set (i := 4) sc_law_constructors.nd rfl (Or.inl rfl) (pe_ix ix_tup (pe_tup (pa_cons pe_int (pa_cons pe_int (pa_cons pe_int (pa_cons pe_int (pa_cons pe_int (pa_cons pe_int pa_nil))))))) (C8.pe_c C_law_take hr (by decide) rfl (pa_cons (pv 0) (pa_cons pe_int pa_nil))) (fun _ _ => rfl)))
    (pss_cons (ps_set (i := 5) sc_law_constructors.nd rfl (Or.inl rfl) (pe_ix ix_tup (pe_tup (pa_cons pe_str (pa_cons pe_str pa_nil))) (C8.pe_c C_law_take hr (by decide) rfl (pa_cons (pv 0) (pa_cons pe_int pa_nil))) (fun _ _ => rfl)))
    (pss_one (ps_expr (pe_bm PySem.F.plainAttrs_list PySem.F.slot_list_append PySem.F.type_list_append mt_append (pv 2) (pa_cons (pe_tup (pa_cons (C8.pe_c C_law_word hr (by decide) rfl (pa_cons (pv 0) (pa_cons (pv 3) (pa_cons (pv 1) pa_nil)))) (pa_cons (pv 4) (pa_cons (pv 5) (pa_cons (C8.pe_c C_law_places hr (by decide) rfl (pa_cons (pv 0) (pa_cons (pv 4) pa_nil))) pa_nil))))) pa_nil)))))))
    (pss_cons (ps_set (i := 5) sc_law_constructors.nd rfl (Or.inl rfl) (pe_ix ix_tup (pe_tup (pa_cons pe_str (pa_cons pe_str pa_nil))) (C8.pe_c C_law_take hr (by decide) rfl (pa_cons (pv 0) (pa_cons pe_int pa_nil))) (fun _ _ => rfl)))
    (pss_cons (ps_expr (pe_bm PySem.F.plainAttrs_list PySem.F.slot_list_insert PySem.F.type_list_insert mt_insert (pv 2) (pa_cons (C8.pe_c C_law_take hr (by decide) rfl (pa_cons (pv 0) (pa_cons (pe_op op_add (pe_callB call_len_seq (by rfl) T.z_len (by decide +kernel) (pa_cons (pv 2) pa_nil)) pe_int) pa_nil))) (pa_cons (pe_tup (pa_cons (C8.pe_c C_law_word hr (by decide) rfl (pa_cons (pv 0) (pa_cons pe_int (pa_cons (pv 1) pa_nil)))) (pa_cons pe_int (pa_cons (pv 5) (pa_cons (C8.pe_c C_law_places hr (by decide) rfl (pa_cons (pv 0) (pa_cons pe_int pa_nil))) pa_nil))))) pa_nil))))
    (pss_one (ps_ret (pv 2)))))))), ?_⟩
  refine vTake rfl P0 (by decide) (by decide) fun sh H1 sh0 sh1 x1 => ⟨Nat.zero_le _, fun L hL => ?_⟩
  have x2 := x1.new (o := .lst []) P0 hL
  have nL : L ≠ l := (x1.pool.ne hL).1
  have hL0 : H L = none := x1.free P0 hL
  refine vTake rfl x2.pool (by decide) (by decide) fun n H3 n0 n1 x3 => ⟨_, _, rfl, rfl, 1 + n, rfl, by omega, by omega, for_range (lo := 0) (n := (1 + n).toNat) (fun i σ H' => ∃ (cs : List Con) (cv : List V) (o3 o4 o5 : Option V), σ = [some (.ref l), some (.int sh), some (.ref L), o3, o4, o5] ∧ Ext l c H H' ∧ H' L = some (.lst cv) ∧ DtAll K H' cv (cs.map Con.d) ∧ cs.length = i ∧
    ∀ (j : Nat) (x : Con), cs[j]? = some x → Tag x.nm (lmAt ((0 + j : Nat) + sh)) ∧ x.ar ≤ 6 ∧ x.good) ?_ ?_ ?_⟩
  · exact ⟨[], [], _, _, _, rfl, x2.trans x3, x3.keep _ _ nL upd_same, .nil, rfl, fun j x e => by simp at e⟩
  · rintro i σ H' hi ⟨cs, cv, o3, o4, o5, rfl, x, hc, dc, lc, ht⟩
    refine ⟨small (by show 6 ≤ _; decide), fun p1 hp1 => ?_⟩
    have y1 := (Ext.refl x.pool).new (o := .tup (([0, 1, 2, 2, 3, 6] : List Nat).map fun n => V.int (n : Nat))) x.pool hp1
    refine vTake rfl y1.pool (by decide) (by decide) fun e H4 e0 e1 y2 => ?_
    obtain ⟨m, hm, hm6⟩ := pick_int (xs := [0, 1, 2, 2, 3, 6]) e0 e1
    have hm6 : m ≤ 6 := by simp at hm6; omega
    refine ⟨p1, _, e, _, rfl, rfl, y2.seqT y1.pool (SqT.of upd_same), hm, ?_⟩
    have y2' := y1.trans y2
    refine ⟨small (by show 2 ≤ _; decide), fun p2 hp2 => ?_⟩
    have y3 := y2'.new (o := .tup ((["value", "plain"] : List Str).map V.str)) x.pool hp2
    refine vTake rfl y3.pool (by decide) (by decide) fun e2 H5 e20 e21 y4 => ?_
    obtain ⟨kd, hkd, mkd⟩ := pick_str (xs := ["value", "plain"]) e20 e21
    refine ⟨p2, _, e2, _, rfl, rfl, y4.seqT y3.pool (SqT.of upd_same), hkd, ?_⟩
    have y4' := y3.trans y4
    have hc5 := y4'.keep _ _ nL hc
    refine ⟨_, rfl, .inl ⟨rfl, _, SqL.of hc5⟩, ?_⟩
    refine ⟨_, rfl, _, rfl, _, rfl, l, c, _, _, rfl, y4'.pool, fun H6 nm y5 wn tg nn => ?_⟩
    refine ⟨_, rfl, _, rfl, _, rfl, _, rfl, l, c, m, rfl, y5.pool, by omega, fun H7 pv pl y6 dpl opl => ?_⟩
    refine ⟨small (by show 4 ≤ _; decide), fun p3 hp3 => ?_⟩
    have y7 := (y4'.trans y5).trans y6
    have y8 := y7.new (o := .tup [.str nm, .int (m : Nat), .str kd, pv]) x.pool hp3
    have hc8 := y8.keep _ _ nL hc
    refine ⟨L, cv, _, rfl, rfl, hc8, smallL (by rw [dc.lenD, List.length_map]; omega), cs ++ [⟨nm, m, kd, pl⟩], cv ++ [.ref p3], _, _, _, rfl, (x.trans y8).upd P0 hL0, upd_same, ?_, by rw [List.length_append, lc]; rfl, fun j z hz => ?_⟩
    · rw [List.map_append]
      exact ((dc.ext x.pool y8).append (.cons (vCon (x := ⟨nm, m, kd, pl⟩) hp3 dpl) .nil)).upd hc8
    · by_cases hj : j < cs.length
      · rw [List.getElem?_append_left hj] at hz
        exact ht j z hz
      · rw [List.getElem?_append_right (by omega)] at hz
        have ej : j - cs.length = 0 := by
          cases e : j - cs.length with
          | zero => rfl
          | succ k => rw [e] at hz; simp at hz
        rw [ej] at hz
        cases hz
        have : j = i := by omega
        rw [this]
        refine ⟨?_, hm6, ⟨wn, ⟨_, tg⟩, nn, mkd, opl⟩⟩
        have e : ((0 + i : Nat) : Int) + sh = 0 + (i : Int) + sh := by omega
        rw [e]
        exact tg
  rintro σ H' ⟨cs, cv, o3, o4, o5, rfl, x, hc, dc, lc, ht⟩
  have lc7 : cs.length ≤ 6 := by omega
  have lcv : cv.length = cs.length := by rw [dc.lenD, List.length_map]
  refine ⟨small (by show 2 ≤ _; decide), fun p2 hp2 => ?_⟩
  have y3 := (Ext.refl x.pool).new (o := .tup ((["value", "plain"] : List Str).map V.str)) x.pool hp2
  refine vTake rfl y3.pool (by decide) (by decide) fun e2 H5 e20 e21 y4 => ?_
  obtain ⟨kd, hkd, mkd⟩ := pick_str (xs := ["value", "plain"]) e20 e21
  refine ⟨p2, _, e2, _, rfl, rfl, y4.seqT y3.pool (SqT.of upd_same), hkd, ?_⟩
  have y4' := y3.trans y4
  have hc5 := y4'.keep _ _ nL hc
  refine ⟨_, rfl, .inl ⟨rfl, _, SqL.of hc5⟩, ?_⟩
  refine ⟨_, rfl, _, rfl, L, _, rfl, .inl (SqL.of hc5), _, _, rfl, rfl, l, c, _, False, rfl, y4'.pool, by omega, by omega, .inl (Nat.le_refl 2), fun e H6 e0 e1 y5 => ?_⟩
  refine ⟨_, rfl, _, rfl, l, c, _, _, rfl, y5.pool, fun H7 nm y6 wn tg nn => ?_⟩
  refine ⟨_, rfl, _, rfl, l, c, 2, rfl, y6.pool, by omega, fun H8 pv pl y7 dpl opl => ?_⟩
  refine ⟨small (by show 4 ≤ _; decide), fun p3 hp3 => ?_⟩
  have y8 := (((y4'.trans y5).trans y6).trans y7).new (o := .tup [.str nm, .int ((2 : Nat) : Int), .str kd, pv]) x.pool hp3
  have hc8 := y8.keep _ _ nL hc
  have dc8 := dc.ext x.pool y8
  refine ⟨L, cv, e, _, rfl, rfl, hc8, smallL (by omega), e0, by omega, _, rfl, ?_⟩
  have per : (cs.take e.toNat ++ [(⟨nm, 2, kd, pl⟩ : Con)] ++ cs.drop e.toNat).Perm ((⟨nm, 2, kd, pl⟩ : Con) :: cs) := by
    rw [List.append_assoc, List.singleton_append]
    refine List.perm_middle.trans ?_
    rw [List.take_append_drop]
  refine q _ L _ (cs.take e.toNat ++ [⟨nm, 2, kd, pl⟩] ++ cs.drop e.toNat) ((x.trans y8).upd P0 hL0) hL0 upd_same ?_ ?_ ?_ ?_ ?_ ?_
  · rw [List.map_append, List.map_append, List.map_take, List.map_drop]
    exact (DtAll.append (DtAll.append (dc8.take _) (.cons (vCon (x := ⟨nm, 2, kd, pl⟩) hp3 dpl) .nil)) (dc8.drop _)).upd hc8
  · refine (per.map Con.nm).nodup_iff.mpr ?_
    rw [List.map_cons, List.nodup_cons]
    refine ⟨fun z => ?_, tag_nd (b := 0) (sh := sh) (by omega) fun j y hy => (ht j y hy).1⟩
    obtain ⟨y, hy, ey⟩ := List.mem_map.mp z
    obtain ⟨j, hj, rfl⟩ := List.getElem_of_mem hy
    have t1 := (ht j _ (List.getElem?_eq_getElem hj)).1
    rw [ey] at t1
    have := lmAt_inj (t1.one tg)
    omega
  · intro y hy
    rcases List.mem_cons.mp (per.mem_iff.mp hy) with rfl | h
    · show 2 ≤ 6; decide
    · obtain ⟨j, hj, rfl⟩ := List.getElem_of_mem h
      exact (ht j _ (List.getElem?_eq_getElem hj)).2.1
  · exact ⟨⟨nm, 2, kd, pl⟩, per.mem_iff.mpr List.mem_cons_self, rfl⟩
  · rw [per.length_eq, List.length_cons]; omega
  · intro y hy
    rcases List.mem_cons.mp (per.mem_iff.mp hy) with rfl | h
    · exact ⟨wn, ⟨_, tg⟩, nn, mkd, opl⟩
    · obtain ⟨j, hj, rfl⟩ := List.getElem_of_mem h
      exact (ht j _ (List.getElem?_eq_getElem hj)).2.2
end
end PK
namespace PK
open PySem L2
/-! measures of terms: sums over the parts, heaviest ways -/
def Tm.tot (f : Tm → Nat) (t : Tm) : Nat := f t + (t.kids.attach.map fun k => k.1.tot f).sum
termination_by sizeOf t
decreasing_by exact Tm.kid_lt k.2
theorem Tm.tot_eq (f : Tm → Nat) (t : Tm) : t.tot f = f t + (t.kids.map (Tm.tot f)).sum := by
  rw [Tm.tot, List.attach_map_val (f := Tm.tot f)]
def Tm.pth (f : Tm → Nat) (t : Tm) : Nat := f t + (t.kids.attach.map fun k => k.1.pth f).foldr max 0
termination_by sizeOf t
decreasing_by exact Tm.kid_lt k.2
theorem Tm.pth_eq (f : Tm → Nat) (t : Tm) : t.pth f = f t + (t.kids.map (Tm.pth f)).foldr max 0 := by
  rw [Tm.pth, List.attach_map_val (f := Tm.pth f)]
theorem Tm.pth_kid {f : Tm → Nat} {t k : Tm} (h : k ∈ t.kids) : k.pth f + f t ≤ t.pth f := by
  have := le_fmax (List.mem_map.mpr ⟨k, h, rfl⟩ : k.pth f ∈ t.kids.map (Tm.pth f))
  rw [Tm.pth_eq f t]; omega
theorem Tm.pth_le {f : Tm → Nat} {t : Tm} {n : Nat} (h : ∀ k ∈ t.kids, k.pth f ≤ n) : t.pth f ≤ f t + n := by
  rw [Tm.pth_eq f t]
  have := fmax_le (n := n) (l := t.kids.map (Tm.pth f)) fun x hx => by
    obtain ⟨k, hk, rfl⟩ := List.mem_map.mp hx
    exact h k hk
  omega
theorem sum_le_of {α : Type} {f g : α → Nat} : ∀ {l : List α}, (∀ x ∈ l, f x ≤ g x) → (l.map f).sum ≤ (l.map g).sum
  | [], _ => Nat.le_refl _
  | x :: l, h => by
    have h1 := h x List.mem_cons_self
    have h2 := sum_le_of (l := l) fun y hy => h y (List.mem_cons_of_mem _ hy)
    rw [List.map_cons, List.map_cons, List.sum_cons, List.sum_cons]; omega
theorem le_sum_of {α : Type} {f : α → Nat} : ∀ {l : List α} {x : α}, x ∈ l → f x ≤ (l.map f).sum
  | y :: l, x, h => by
    rw [List.map_cons, List.sum_cons]
    rcases List.mem_cons.mp h with rfl | h
    · omega
    · have := le_sum_of (f := f) h; omega
theorem Tm.pth_tot {f g : Tm → Nat} {t : Tm} (h : Al (fun t => f t ≤ g t) t) : t.pth f ≤ t.tot g := by
  induction t using Tm.ind with
  | h t ih =>
    have h1 := h.at_
    have : t.pth f ≤ f t + (t.kids.map (Tm.tot g)).sum := Tm.pth_le fun k hk => Nat.le_trans (ih k hk (h.kid hk)) (le_sum_of hk)
    rw [Tm.tot_eq]; omega
theorem Tm.tot_kid {f : Tm → Nat} {t k : Tm} (h : k ∈ t.kids) : k.tot f ≤ t.tot f := by
  have := le_sum_of (f := Tm.tot f) h
  rw [Tm.tot_eq f t]; omega
/-- nodes -/
def fN : Tm → Nat | .node _ _ => 1 | _ => 0
/-- nodes, by their arguments -/
def fW : Tm → Nat | .node _ ts => ts.length + 3 | _ => 0
/-- places of a word -/
def fO (s : Str) : Tm → Nat | .var u => if u = s then 1 else 0 | _ => 0
/-- a way, by the arguments of its nodes -/
def fP : Tm → Nat | .node _ ts => ts.length + 3 | .map _ => 2 | _ => 0
/-- a way, as data -/
def fD : Tm → Nat | .node _ _ => 1 | .map _ => 2 | _ => 0
/-- the constructors of nodes -/
def conN (cs : List Con) (t : Tm) : Prop := ∀ c ts, t = .node c ts → ∃ x ∈ cs, x.nm = c ∧ x.ar = ts.length
def conOk (cs : List Con) : Tm → Prop := Al (conN cs)
/-- what is counted in a drawn template -/
structure TplM (ps : List Str) (t : Tm) : Prop where
  n : t.tot fN ≤ ps.length + 3
  w : t.tot fW ≤ 47
  o : ∀ s, t.tot (fO s) = ps.count s
end PK
namespace PK
open PySem L2
/-! drawn atoms and nodes -/
def Tm.atom : Tm → Prop
  | .int _ => True
  | .name _ => True
  | .addr _ => True
  | _ => False
/-- all but the pool and a list is kept -/
structure Ex2 (l c pa : Addr) (H H' : Hp) : Prop where
  keep : ∀ b o, b ≠ l → b ≠ pa → H b = some o → H' b = some o
  pool : Pool H' l c
theorem Ex2.of {l c pa : Addr} {H H' : Hp} (x : Ext l c H H') : Ex2 l c pa H H' := ⟨fun b o h _ => x.keep b o h, x.pool⟩
theorem Ex2.trans {l c pa : Addr} {H H1 H2 : Hp} (x : Ex2 l c pa H H1) (y : Ex2 l c pa H1 H2) : Ex2 l c pa H H2 := ⟨fun b o h1 h2 h => y.keep b o h1 h2 (x.keep b o h1 h2 h), y.pool⟩
theorem Ex2.free {l c pa p : Addr} {H H' : Hp} (x : Ex2 l c pa H H') (P : Pool H l c) (hp : ∃ o, H pa = some o) (hpa : ∃ o, H' pa = some o) (h : H' p = none) : H p = none := by
  have n1 := (x.pool.ne h).1
  have n2 : p ≠ pa := fun e => by obtain ⟨o, ho⟩ := hpa; rw [e, ho] at h; cases h
  cases e : H p with
  | none => rfl
  | some o => rw [x.keep p o n1 n2 e] at h; cases h
theorem Ex2.upd {l c pa p : Addr} {H H' : Hp} {o : HO} (x : Ex2 l c pa H H') (h : H p = none) (P : Pool H l c) : Ex2 l c pa H (L2.upd H' p o) := by
  have n := P.ne h
  refine ⟨fun b u h1 h2 e => ?_, x.pool.upd n.1 n.2⟩
  rw [upd_ne (fun z => by rw [z, h] at e; cases e)]
  exact x.keep b u h1 h2 e
theorem Ex2.updP {l c pa : Addr} {H H' : Hp} {o : HO} (x : Ex2 l c pa H H') (h1 : pa ≠ l) (h2 : pa ≠ c) : Ex2 l c pa H (L2.upd H' pa o) := by
  refine ⟨fun b u k1 k2 e => ?_, x.pool.upd h1 h2⟩
  rw [upd_ne k2]
  exact x.keep b u k1 k2 e
def spAtom (K : PySem.W.Frag) : Sp := fun vs H Q _ => ∃ (l c : Addr), vs = [.ref l] ∧ Pool H l c ∧ ∀ (H' : Hp) (v : V) (t : Tm), Ext l c H H' → Dt K H' v t.d → t.atom → Q v H'
theorem sum_snoc (g : Tm → Nat) (l : List Tm) (t : Tm) : ((l ++ [t]).map g).sum = (l.map g).sum + g t := by
  rw [List.map_append, List.sum_append]
  show _ + (g t + 0) = _
  omega
theorem Ex2.seqT {l c pa a : Addr} {K : PySem.W.Frag} {H H' : Hp} {xs pw : List V} (x : Ex2 l c pa H H') (P : Pool H l c) (hp : H pa = some (.lst pw)) (h : SqT K H a xs) : SqT K H' a xs := by
  have nl : ∀ {o : HO}, H a = some o → (∀ ys, o ≠ .lst ys) → a ≠ l ∧ a ≠ pa := fun e d => by
    refine ⟨fun z => ?_, fun z => ?_⟩
    · subst z
      obtain ⟨ns, i, r, s, hl, _⟩ := P
      rw [hl] at e; cases e
      exact d _ rfl
    · subst z
      rw [hp] at e; cases e
      exact d _ rfl
  rcases h with (h | ⟨o, h⟩) | h
  · exact .inl (.inl (x.keep _ _ (nl h (fun _ => HO.noConfusion)).1 (nl h (fun _ => HO.noConfusion)).2 h))
  · exact .inl (.inr ⟨o, x.keep _ _ (nl h (fun _ => HO.noConfusion)).1 (nl h (fun _ => HO.noConfusion)).2 h⟩)
  · exact .inr h
theorem Dt.ex2 {l c pa : Addr} {K : PySem.W.Frag} {H H' : Hp} {pw : List V} {v : V} {d : PyData} (h : Dt K H v d) (x : Ex2 l c pa H H') (P : Pool H l c) (hp : H pa = some (.lst pw)) : Dt K H' v d := Dt.mono (fun _ _ z => x.seqT P hp z) _ _ h
theorem DtAll.ex2 {l c pa : Addr} {K : PySem.W.Frag} {H H' : Hp} {pw : List V} {v : List V} {d : List PyData} (h : DtAll K H v d) (x : Ex2 l c pa H H') (P : Pool H l c) (hp : H pa = some (.lst pw)) : DtAll K H' v d := DtAll.mono (fun _ _ z => x.seqT P hp z) _ _ h
theorem DtAll.erase {K : PySem.W.Frag} {H : Hp} : ∀ {xs : List V} {ds : List PyData} (n : Nat), DtAll K H xs ds → DtAll K H (xs.eraseIdx n) (ds.eraseIdx n)
  | _, _, _, .nil => .nil
  | _, _, 0, .cons _ t => t
  | _, _, n + 1, .cons h t => .cons h (t.erase n)
theorem map_erase {α β : Type} (f : α → β) : ∀ (l : List α) (k : Nat), (l.map f).eraseIdx k = (l.eraseIdx k).map f
  | [], _ => rfl
  | _ :: _, 0 => rfl
  | a :: l, k + 1 => by rw [List.map_cons, List.eraseIdx_cons_succ, List.eraseIdx_cons_succ, List.map_cons, map_erase f l k]
theorem seqIx_nat {k n : Nat} (h : k < n) : seqIndex? (k : Int) n = some k := by
  unfold seqIndex?
  have h0 : ¬ ((k : Int) < 0) := by omega
  simp [h0, h]
section
variable {P : Program} {w : World} {K : PySem.W.Frag} {mg : Str → Option Value} {base : Heap}
abbrev s_law_atom : Stmt := topS 111
theorem sc_law_atom : FnScope ["pool", "kind"] ["pool"] (defScope s_law_atom) := ⟨rfl, rfl, rfl, by decide +kernel, rfl, by decide +kernel, by decide +kernel⟩
-- slots: 0:pool 1:kind
theorem ok_atom {f : Addr} {fd : FuncData} (F : Fun K "_law_atom" "_law_atom" s_law_atom f fd) (C_law_take : C8.Cal P w K mg base 2 "_law_take" (spTake 2) []) (C_law_word : C8.Cal P w K mg base 3 "_law_word" spLWord []) :
    FnOk P w K mg base CX0 4 f fd ["pool"] (spAtom K) := by
  refine F.ok sc_law_atom (fun vs H Q E h => ?_) (fun cdv A outer s H vs Q E hr h => ?_)
  · obtain ⟨_, _, rfl, _⟩ := h
    rfl
  obtain ⟨l, c, rfl, P0, q⟩ := h
  refine ⟨_, (pss_cons (ps_set (i := 1) sc_law_atom.nd rfl (Or.inl rfl) (C8.pe_c C_law_take hr (by decide) rfl (pa_cons (pv 0) (pa_cons pe_int pa_nil))))
    (pss_cons (ps_if (pt_cmpR op_eq (pv 1) pe_int (nomark _)) (pss_one (ps_ret (pe_tup (pa_cons pe_str (pa_cons (C8.pe_c C_law_word hr (by decide) rfl (pa_cons (pv 0) (pa_cons (C8.pe_c C_law_take hr (by decide) rfl (pa_cons (pv 0) (pa_cons pe_int pa_nil))) (pa_cons pe_int pa_nil)))) pa_nil))))) pss_nil)
    (pss_cons (ps_if (pt_cmpR op_eq (pv 1) pe_int (nomark _)) (pss_one (ps_ret (pe_tup (pa_cons pe_str (pa_cons (C8.pe_c C_law_take hr (by decide) rfl (pa_cons (pv 0) (pa_cons pe_int pa_nil))) pa_nil))))) pss_nil)
    (pss_one (ps_ret (pe_tup (pa_cons pe_str (pa_cons (pe_op op_sub (C8.pe_c C_law_take hr (by decide) rfl (pa_cons (pv 0) (pa_cons pe_int pa_nil))) pe_int) pa_nil)))))))), ?_⟩
  refine vTake rfl P0 (by decide) (by decide) fun d H1 d0 d1 x1 => ⟨_, rfl, rfl, _, rfl, ite2 (fun _ => ?_) (fun _ => ?_)⟩
  · refine ⟨_, rfl, vTake rfl x1.pool (by decide) (by decide) fun e H2 e0 e1 x2 => ⟨l, c, _, _, rfl, x2.pool, fun H3 x x3 _ _ _ => ⟨small (by show 2 ≤ _; decide), fun p hp => ?_⟩⟩⟩
    have y := (x1.trans x2).trans x3
    refine q _ _ (.name x) (y.new P0 hp) ?_ trivial
    unfold Tm.d
    exact Dt.mk2 hp (.str _) (.str _)
  · refine ⟨_, rfl, rfl, _, rfl, ite2 (fun _ => ?_) (fun _ => ?_)⟩
    · refine vTake rfl x1.pool (by decide) (by decide) fun e H2 e0 e1 x2 => ⟨small (by show 2 ≤ _; decide), fun p hp => ?_⟩
      refine q _ _ (.addr e) ((x1.trans x2).new P0 hp) ?_ trivial
      unfold Tm.d
      exact Dt.mk2 hp (.str _) (.int _)
    · refine vTake rfl x1.pool (by decide) (by decide) fun e H2 e0 e1 x2 => ⟨_, _, rfl, rfl, small (by show 2 ≤ _; decide), fun p hp => ?_⟩
      refine q _ _ (.int (e - 1000)) ((x1.trans x2).new P0 hp) ?_ trivial
      unfold Tm.d
      exact Dt.mk2 hp (.str _) (.int _)
end
/-- the parts of a template: parameters, no results' forms -/
def tplN (ps : List Str) (t : Tm) : Prop := t.kids.length ≤ 6 ∧ (∀ s, t = .var s → s ∈ ps) ∧ (∀ f ts, t ≠ .form f ts) ∧ ∀ es, t ≠ .map es
def tplOk (ps : List Str) : Tm → Prop := Al (tplN ps)
def rwOk (r : Rw) : Prop := tplOk r.ps r.t ∧ r.t.ht ≤ 12 ∧ (∃ c ts, r.t = .node c ts) ∧ r.ps.length ≤ 6
/-- a row as it was drawn over the constructors of its target -/
def rwM (ds : List Con) (r : Rw) : Prop := conOk ds r.t ∧ TplM r.ps r.t ∧ r.ps.Nodup ∧ ∀ p ∈ r.ps, Wd p
theorem tag_nds {sh : Int} : ∀ {ss : List Str} {b : Nat}, b + ss.length ≤ 13 → (∀ (j : Nat) (x : Str), ss[j]? = some x → Tag x (lmAt ((b + j : Nat) + sh))) → ss.Nodup
  | [], _, _, _ => List.nodup_nil
  | y :: ss, b, hl, h => by
    rw [List.length_cons] at hl
    rw [List.nodup_cons]
    refine ⟨fun z => ?_, tag_nds (sh := sh) (b := b + 1) (by omega) fun j x e => ?_⟩
    · obtain ⟨j, hj, e⟩ := List.getElem_of_mem z
      have t1 := h 0 y rfl
      have t2 := h (j + 1) _ (by rw [List.getElem?_cons_succ]; exact List.getElem?_eq_getElem hj)
      rw [e] at t2
      have := lmAt_inj (t1.one t2)
      omega
    · have := h (j + 1) x (by rw [List.getElem?_cons_succ]; exact e)
      rw [show b + 1 + j = b + (j + 1) by omega]
      exact this
theorem Con.get {K : PySem.W.Frag} {H : Hp} {v : V} {x : Con} (h : Dt K H v x.d) : ∃ a z, v = .ref a ∧ SqT K H a [.str x.nm, .int (x.ar : Nat), .str x.kd, z] := by
  unfold Con.d at h
  obtain ⟨a, ys, rfl, hs, dys⟩ := Dt.tn h
  cases dys with | cons h1 t1 => cases t1 with | cons h2 t2 => cases t2 with | cons h3 t3 => cases t3 with | cons h4 t4 =>
  cases t4
  rw [h1.s, h2.i, h3.s] at hs
  exact ⟨a, _, rfl, hs⟩
theorem drawn_con {K : PySem.W.Frag} {σ : L2.St} {H : Hp} {l c px : Addr} {j : Nat} {xv : List V} {xs : List Con} (h0 : σ[0]? = some (some (.ref l))) (hj : σ[j]? = some (some (.ref px))) (P : Pool H l c) (nx : px ≠ l) (hx : H px = some (.lst xv)) (dx : DtAll K H xv (xs.map Con.d)) (hl : 0 < xs.length) (hl2 : xs.length ≤ 100)
    (Q' : VK) (q : ∀ H2 v con, con ∈ xs → Ext l c H H2 → Dt K H2 v con.d → Q' v H2) :
    tOp (rIxL K) (tVar j) (tCall (spTake 2) [] C8.E0 (tCons (tVar 0) (tCons (tCB (fun xs H_1 Q => ∃ p ys, xs = [V.ref p] ∧ (SqL K H_1 p ys ∨ SqT K H_1 p ys) ∧ Q (V.int ↑ys.length) H_1) (tCons (tVar j) tNil)) tNil))) σ H Q' := by
  have lx : xv.length = xs.length := by rw [dx.lenD, List.length_map]
  refine ⟨_, hj, _, h0, _, hj, px, xv, rfl, .inl (SqL.of hx), l, c, _, False, rfl, P, by omega, by omega, .inl (Nat.le_refl 2), fun e H2 e0 e1 x2 => ?_⟩
  obtain ⟨k, rfl⟩ : ∃ k : Nat, e = k := ⟨e.toNat, by omega⟩
  have hk : k < xs.length := by omega
  obtain ⟨v, gv, dv⟩ := dx.getD (i := k) (d := xs[k].d) (by rw [List.getElem?_map, List.getElem?_eq_getElem hk]; rfl)
  exact ⟨px, xv, _, v, rfl, rfl, SqL.of (x2.keep _ _ nx hx), atI_nat gv, q H2 v _ (List.getElem_mem hk) x2 (dv.ext P x2)⟩
end PK
namespace PK
open PySem L2
/-! drawn terms -/
/-- height over the leaves -/
def Tm.leaf : Tm → Bool
  | .node _ _ | .map _ | .form _ _ => false
  | _ => true
def Tm.nh (t : Tm) : Nat := if t.leaf then 0 else 1 + (t.kids.attach.map fun k => k.1.nh).foldr max 0
termination_by sizeOf t
decreasing_by exact Tm.kid_lt k.2
theorem Tm.nh_eq (t : Tm) : t.nh = if t.leaf then 0 else 1 + (t.kids.map Tm.nh).foldr max 0 := by
  rw [Tm.nh, List.attach_map_val (f := Tm.nh)]
theorem Tm.nh_leaf {t : Tm} (h : t.leaf = true) : t.nh = 0 := by rw [Tm.nh_eq, if_pos h]
theorem Tm.leaf_kids {t : Tm} (h : t.leaf = true) : t.kids = [] := by cases t <;> first | rfl | cases h
theorem Tm.nh_kid {t k : Tm} (h : k ∈ t.kids) : k.nh + 1 ≤ t.nh := by
  have hl : t.leaf = false := by
    cases e : t.leaf with
    | false => rfl
    | true => rw [Tm.leaf_kids e] at h; cases h
  have := le_fmax (List.mem_map.mpr ⟨k, h, rfl⟩ : k.nh ∈ t.kids.map Tm.nh)
  rw [Tm.nh_eq t, hl, if_neg (by decide)]; omega
theorem Tm.nh_le {t : Tm} {n : Nat} (h : ∀ k ∈ t.kids, k.nh ≤ n) : t.nh ≤ n + 1 := by
  rw [Tm.nh_eq t]
  have := fmax_le (n := n) (l := t.kids.map Tm.nh) fun x hx => by
    obtain ⟨k, hk, rfl⟩ := List.mem_map.mp hx
    exact h k hk
  split <;> omega
theorem Tm.ht_nh (t : Tm) : t.ht ≤ t.nh + 1 := by
  induction t using Tm.ind with
  | h t ih => exact Tm.ht_le fun k hk => by have := ih k hk; have := Tm.nh_kid hk; omega
def terN (cs : List Con) (t : Tm) : Prop := t.kids.length ≤ 6 ∧ (∀ c ts, t = .node c ts → ∃ x ∈ cs, x.nm = c ∧ x.ar = ts.length) ∧ ∀ f ts, t ≠ .form f ts
def terOk (cs : List Con) : Tm → Prop := Al (terN cs)
def spTerm (K : PySem.W.Frag) (n : Nat) : Sp := fun vs H Q _ => ∃ (l c pc pw : Addr) (cv : List V) (cs : List Con) (ws : List Str) (d : Nat), vs = [.ref l, .ref pc, .int (d : Nat), .ref pw] ∧ d < n ∧ Pool H l c ∧ pc ≠ l ∧ pw ≠ l ∧ H pc = some (.lst cv) ∧ DtAll K H cv (cs.map Con.d) ∧ (∀ x ∈ cs, x.ar ≤ 6) ∧ 0 < cs.length ∧ cs.length ≤ 7 ∧
  H pw = some (.lst (ws.map V.str)) ∧ ws.length ≤ 7 ∧ ∀ (H' : Hp) (v : V) (t : Tm), Ext l c H H' → Dt K H' v t.d → terOk cs t → t.nh ≤ d → Q v H'
theorem ter_leaf {cs : List Con} {t : Tm} (k0 : t.leaf = true) {d : Nat} : terOk cs t ∧ t.nh ≤ d := by
  have kk := Tm.leaf_kids k0
  refine ⟨.mk ⟨by rw [kk]; exact Nat.zero_le _, fun c ts e => ?_, fun f ts e => ?_⟩ fun k hk => (by rw [kk] at hk; cases hk), by rw [Tm.nh_leaf k0]; exact Nat.zero_le _⟩
  · rw [e] at k0; cases k0
  · rw [e] at k0; cases k0
theorem ter_atom {cs : List Con} {t : Tm} (h : t.atom) {d : Nat} : terOk cs t ∧ t.nh ≤ d := ter_leaf (by cases t <;> first | rfl | exact h.elim)
theorem leaf_read {K : PySem.W.Frag} {cs : List Con} {σ : L2.St} {H : Hp} {D : Ends} {l c pw : Addr} {ws : List Str} (h0 : σ[0]? = some (some (.ref l))) (h3 : σ[3]? = some (some (.ref pw))) (P : Pool H l c) (nw : pw ≠ l) (hpw : H pw = some (.lst (ws.map V.str))) (lw : ws.length ≤ 7)
    (q : ∀ (H' : Hp) (v : V) (t : Tm), Ext l c H H' → Dt K H' v t.d → (∀ d, terOk cs t ∧ t.nh ≤ d) → D.rt v H') :
    (tSeq
      (tIfS
        (tAnd
          (fun σ H_1 Q => tVar 3 σ H_1 fun x H' => ∃ k, TruV K x H' k ∧ Q k H')
          (tTest (tOp rEq (tCall (spTake 2) [] C8.E0 (tCons (tVar 0) (tCons (tC (V.int 2)) tNil))) (tC (V.int 1)))))
        (tRet
          (tTup
            (tCons (tC (V.str ("meta"))) (tCons (tOp (rIxL K) (tVar 3) (tCall (spTake 2) [] C8.E0 (tCons (tVar 0) (tCons (tCB (fun xs H_1 Q => ∃ p ys, xs = [V.ref p] ∧ (SqL K H_1 p ys ∨ SqT K H_1 p ys) ∧ Q (V.int ↑ys.length) H_1) (tCons (tVar 3) tNil)) tNil)))) tNil))))
        tNext)
      (tRet (tCall (spAtom K) [] C8.E0 (tCons (tVar 0) tNil)))) D σ H := by
  have atm : ∀ H1, Ext l c H H1 → tRet (tCall (spAtom K) [] C8.E0 (tCons (tVar 0) tNil)) D σ H1 := fun H1 x => ⟨_, h0, l, c, rfl, x.pool, fun H2 v t x2 dv at_ => q H2 v t (x.trans x2) dv fun d => ter_atom at_⟩
  refine ⟨_, h3, !(ws.map V.str).isEmpty, .inl ⟨_, SqL.of hpw, rfl⟩, ?_⟩
  cases ws with
  | nil => exact iteF (iteF (atm H (Ext.refl P)))
  | cons w0 wr =>
    refine iteT (vTake h0 P (by decide) (by decide) fun k H1 k0 k1 x1 => ⟨rfl, _, rfl, ite2 (fun _ => ?_) (fun _ => atm H1 x1)⟩)
    have hw1 := x1.keep _ _ nw hpw
    refine ⟨_, h3, _, h0, _, h3, pw, _, rfl, .inl (SqL.of hw1), l, c, _, False, rfl, x1.pool, by rw [List.length_map, List.length_cons]; omega, by rw [List.length_map]; omega, .inl (Nat.le_refl 2), fun e H2 e0 e1 x2 => ?_⟩
    rw [List.length_map] at e1
    obtain ⟨j, rfl⟩ : ∃ j : Nat, e = j := ⟨e.toNat, by omega⟩
    have hj : j < (w0 :: wr).length := by omega
    refine ⟨pw, _, _, .str (w0 :: wr)[j], rfl, rfl, SqL.of (x2.keep _ _ nw hw1), atI_nat (by rw [List.getElem?_map, List.getElem?_eq_getElem hj]; rfl), small (by show 2 ≤ _; decide), fun p hp => ?_⟩
    refine q _ _ (.var (w0 :: wr)[j]) ((x1.trans x2).new P hp) ?_ fun d => ter_leaf rfl
    unfold Tm.d
    exact Dt.mk2 hp (.str _) (.str _)
section
variable {P : Program} {w : World} {K : PySem.W.Frag} {mg : Str → Option Value} {base : Heap}
abbrev s_law_term : Stmt := topS 112
theorem sc_law_term : FnScope ["pool", "constructors", "deep", "open_words", "kind", "shift", "names", "constructor", "parts", "place", "k", "name"] ["pool", "constructors", "deep", "open_words"] (defScope s_law_term) := ⟨rfl, rfl, rfl, by decide +kernel, rfl, by decide +kernel, by decide +kernel⟩
-- slots: 0:pool(cell) 1:constructors(cell) 2:deep(cell) 3:open_words(cell) 4:kind 5:shift(cell) 6:names 7:constructor 8:parts 9:place(comp) 10:k(comp) 11:name(comp)
theorem ok_term {n : Nat} {f : Addr} {fd : FuncData} (F : Fun K "_law_term" "_law_term" s_law_term f fd) (T : Txt K mg) (C_law_take : C8.Cal P w K mg base 2 "_law_take" (spTake 2) []) (C_law_word : C8.Cal P w K mg base 3 "_law_word" spLWord [])
    (C_law_atom : C8.Cal P w K mg base 4 "_law_atom" (spAtom K) []) (C_law_term : C8.Cal P w K mg base (n + 4) "_law_term" (spTerm K n) []) : FnOk P w K mg base CX0 (n + 5) f fd ["pool", "constructors", "deep", "open_words"] (spTerm K (n + 1)) := by
  refine F.ok sc_law_term (fun vs H Q E h => ?_) (fun cdv A outer s H vs Q E hr h => ?_)
  · obtain ⟨_, _, _, _, _, _, _, _, rfl, _⟩ := h
    rfl
  obtain ⟨l, c, pc, pw, cv, cs, ws, d, rfl, hd, P0, nc, nw, hpc, dc, ac, c0, lc, hpw, lw, q⟩ := h
  refine ⟨_, (pss_cons (ps_set (i := 4) sc_law_term.nd rfl (Or.inl rfl) (C8.pe_c C_law_take hr (by omega) rfl (pa_cons (pv 0) (pa_cons pe_int pa_nil))))
    (pss_cons (ps_if (PW.pt (pw_or (pt_cmpR op_lt (pv 2) pe_int (nomark _)) (pw_or1 (pt_cmpR op_eq (pv 4) pe_int (nomark _))))) (pss_cons (ps_if (PW.pt (pw_and (pt_truth (pv 3) (by intro _; rfl)) (pw_and1 (pt_cmpR op_eq (C8.pe_c C_law_take hr (by omega) rfl (pa_cons (pv 0) (pa_cons pe_int pa_nil))) pe_int (nomark _))))) (pss_one (ps_ret (pe_tup (pa_cons pe_str (pa_cons (pe_ix ix_list (pv 3) (C8.pe_c C_law_take hr (by omega) rfl (pa_cons (pv 0) (pa_cons (pe_callB call_len_seq (by rfl) T.z_len (by decide +kernel) (pa_cons (pv 3) pa_nil)) pa_nil))) (fun _ _ => rfl)) pa_nil))))) pss_nil)
    (pss_one (ps_ret (C8.pe_c C_law_atom hr (by omega) rfl (pa_cons (pv 0) pa_nil))))) pss_nil)
    (pss_cons (ps_if (pt_cmpR op_eq (pv 4) pe_int (nomark _)) (pss_cons (ps_set (i := 5) sc_law_term.nd rfl (Or.inr rfl) (C8.pe_c C_law_take hr (by omega) rfl (pa_cons (pv 0) (pa_cons pe_int pa_nil))))
    (pss_cons (ps_set (i := 6) sc_law_term.nd rfl (Or.inl rfl) (pe_callB cr_sortedS (by rfl) T.z_sorted (by decide +kernel) (pa_cons (pe_lc (own := [("k", 10)]) (g := (gName 10)) (tt := tYes) (by rfl) sc_law_term.nd (pi_range1 (by rfl) T.z_range (pa_cons (C8.pe_c C_law_take hr (by omega) rfl (pa_cons (pv 0) (pa_cons pe_int pa_nil))) pa_nil)) (blkOk_by (N := ["pool", "constructors", "deep", "open_words", "kind", "shift", "names", "constructor", "parts", "place", "k", "name"]) (sc := defScope s_law_term) (by decide +kernel)) (fun _ _ _ _ _ => (pg_name (i := 10) sc_law_term.nd rfl (Or.inl rfl))) (fun _ _ _ _ _ => pts_nil) (fun _ _ _ _ _ => (C8.pe_c C_law_word hr (by omega) rfl (pa_cons (pv 0) (pa_cons (pv 10) (pa_cons (pv 5) pa_nil)))))) pa_nil)))
    (pss_one (ps_ret (pe_tup (pa_cons pe_str (pa_cons (pe_callTy call_tuple_of (by rfl) T.z_tuple (by decide +kernel) (pa_cons (pe_lc (own := [("name", 11)]) (g := (gName 11)) (tt := tYes) (by rfl) sc_law_term.nd (pi_list (pv 6)) (blkOk_by (N := ["pool", "constructors", "deep", "open_words", "kind", "shift", "names", "constructor", "parts", "place", "k", "name"]) (sc := defScope s_law_term) (by decide +kernel)) (fun _ _ _ _ _ => (pg_name (i := 11) sc_law_term.nd rfl (Or.inl rfl))) (fun _ _ _ _ _ => pts_nil) (fun _ _ _ _ _ => (pe_tup (pa_cons (pv 11) (pa_cons (C8.pe_c C_law_term hr (by omega) rfl (pa_cons (pv 0) (pa_cons (pv 1) (pa_cons (pe_op op_sub (pv 2) pe_int) (pa_cons (pv 3) pa_nil))))) pa_nil))))) pa_nil)) pa_nil))))))) pss_nil)
    (pss_cons (ps_set (i := 7) sc_law_term.nd rfl (Or.inl rfl) (pe_ix ix_list (pv 1) (C8.pe_c C_law_take hr (by omega) rfl (pa_cons (pv 0) (pa_cons (pe_callB call_len_seq (by rfl) T.z_len (by decide +kernel) (pa_cons (pv 1) pa_nil)) pa_nil))) (fun _ _ => rfl)))
    (pss_cons (ps_setLc (i := 8) (own := [("place", 9)]) (g := (gName 9)) (tt := tYes) (by rfl) sc_law_term.nd rfl rfl (sw_true rfl rfl rfl (by decide +kernel)) (pi_range1 (by rfl) T.z_range (pa_cons (pe_ix ix_tup (pv 7) pe_int (fun _ _ => rfl)) pa_nil)) (blkOk_by (N := ["pool", "constructors", "deep", "open_words", "kind", "shift", "names", "constructor", "parts", "place", "k", "name"]) (sc := defScope s_law_term) (by decide +kernel)) (fun _ _ _ _ _ => (pg_name (i := 9) sc_law_term.nd rfl (Or.inl rfl))) (fun _ _ _ _ _ => pts_nil) (fun _ _ _ _ _ => (C8.pe_c C_law_term hr (by omega) rfl (pa_cons (pv 0) (pa_cons (pv 1) (pa_cons (pe_op op_sub (pv 2) pe_int) (pa_cons (pv 3) pa_nil)))))))
    (pss_one (ps_ret (pe_tup (pa_cons pe_str (pa_cons (pe_ix ix_tup (pv 7) pe_int (fun _ _ => rfl)) (pa_cons (pe_callTy call_tuple_of (by rfl) T.z_tuple (by decide +kernel) (pa_cons (pv 8) pa_nil)) pa_nil))))))))))), ?_⟩
  refine vTake rfl P0 (by decide) (by decide) fun k H1 k0 k1 x1 => ?_
  have hpw1 := x1.keep _ _ nw hpw
  have leaf : ∀ D : Ends, (∀ v H', D.rt v H' = Q v H') → _ := fun D hD => leaf_read (K := K) (cs := cs) (σ := [some (.ref l), some (.ref pc), some (.int (d : Nat)), some (.ref pw), some (.int k), none, none, none, none, none, none, none]) (D := D) rfl rfl x1.pool nw hpw1 lw (fun H' v t x dv h => by rw [hD]; exact q H' v t (x1.trans x) dv (h d).1 (h d).2)
  refine ⟨_, rfl, _, _, rfl, rfl, _, rfl, ?_⟩
  by_cases e : d < 1
  · rw [decide_eq_true (show ((d : Nat) : Int) < 1 by omega)]
    exact iteT (iteT (leaf _ fun _ _ => rfl))
  rw [decide_eq_false (show ¬ ((d : Nat) : Int) < 1 by omega)]
  refine iteF ⟨_, rfl, rfl, _, rfl, ite2 (fun _ => leaf _ fun _ _ => rfl) (fun _ => ?_)⟩
  clear leaf
  obtain ⟨d', rfl⟩ : ∃ d', d = d' + 1 := ⟨d - 1, by omega⟩
  have ed : ((d' + 1 : Nat) : Int) - 1 = (d' : Nat) := by omega
  refine ⟨_, rfl, rfl, _, rfl, ite2 (fun _ => ?_) (fun _ => ?_)⟩
  · -- a map
    refine vTake rfl x1.pool (by decide) (by decide) fun sh H2 sh0 sh1 x2 => ?_
    refine vTake rfl x2.pool (by decide) (by decide) fun m H3 m0 m1 x3 => ⟨m, rfl, by omega, by omega, fun D hD => lcX (K := K) (walk_range (lo := 0) (n := m.toNat)) x3.pool hD (by omega) (fun ds => ∃ ss : List Str, ds = ss.map PyData.str) ⟨[], rfl⟩ (fun _ _ => trivial) ?_ ?_⟩
    · rintro i x4 H4 H4 ds R' hk x4' ⟨rfl, rfl⟩ ⟨ss, rfl⟩ len r
      exact ⟨rfl, _, rfl, _, rfl, _, rfl, l, c, _, _, rfl, x4'.pool, fun H5 nm x5 _ _ _ => r (.str nm) _ _ x5 (.str nm) ⟨ss ++ [nm], by rw [List.map_append]; rfl⟩⟩
    rintro H4 vs ds x4 hvs da len ⟨ss, rfl⟩
    rw [List.length_map] at len
    obtain rfl := da.strsE
    refine ⟨D, ss, rfl, SqL.of hvs, by omega, fun ys p per _ hp => ?_⟩
    have ly : ys.length = ss.length := per.length_eq
    have x14 := ((x2.trans x3).trans x4).new (o := .lst (ys.map V.str)) x1.pool hp
    refine ⟨_, rfl, p, rfl, ⟨_, SqL.of upd_same⟩, fun D2 hD2 => lcX (K := K) (walk_list (xs := ys.map V.str)) x14.pool hD2 (by rw [List.length_map]; omega) (fun ds => ∃ es : List (Str × Tm), ds = es.map Tm.ent ∧ ∀ e ∈ es, terOk cs e.2 ∧ e.2.nh ≤ d') ⟨[], rfl, fun _ h => absurd h List.not_mem_nil⟩ (fun H' x => SqL.of (x.keep _ _ (x4.pool.ne hp).1 upd_same)) ?_ ?_⟩
    · rintro i x5 H5 H5 ds R' hk x5' ⟨rfl, gx⟩ ⟨es, rfl, ok⟩ len' r
      rw [List.getElem?_map] at gx
      cases e0 : ys[i]? with
      | none => rw [e0] at gx; cases gx
      | some nm =>
      rw [e0] at gx
      cases gx
      have xx := x14.trans x5'
      have xx0 := x1.trans xx
      refine ⟨rfl, _, rfl, _, rfl, _, rfl, _, rfl, _, _, rfl, rfl, _, rfl, l, c, pc, pw, cv, cs, ws, d', (by show [V.ref l, V.ref pc, V.int (((d' + 1 : Nat) : Int) - 1), V.ref pw] ++ [] = _; rw [ed]; rfl), by omega, x5'.pool, nc, nw, xx0.keep _ _ nc hpc, dc.ext P0 xx0, ac, c0, lc, xx0.keep _ _ nw hpw, lw, fun H6 v t x6 dv tok tht => ⟨small (by show 2 ≤ _; decide), fun p2 hp2 => ?_⟩⟩
      refine r (Tm.ent (nm, t)) _ _ (x6.new x5'.pool hp2) ?_ ⟨es ++ [(nm, t)], by rw [List.map_append]; rfl, fun e he => ?_⟩
      · unfold Tm.ent
        exact Dt.mk2 hp2 (.str _) dv
      · rcases List.mem_append.mp he with h | h
        · exact ok e h
        · rw [List.mem_singleton.mp h]; exact ⟨tok, tht⟩
    rintro H5 vs5 ds5 x5 hvs5 da5 len5 ⟨es, rfl, ok⟩
    rw [List.length_map, List.length_map] at len5
    refine ⟨D2, _, rfl, .inl ⟨SqL.of hvs5, fun p3 hp3 => ⟨small (by show 2 ≤ _; decide), fun p4 hp4 => ?_⟩⟩⟩
    have y := ((x1.trans (x14.trans x5)).new (o := .tup vs5) P0 hp3).new (o := .tup [.str "map", .ref p3]) P0 hp4
    refine q _ _ (.map es) y ?_ ?_ ?_
    · unfold Tm.d
      rw [Tm.es_map]
      exact Dt.mk2 hp4 (.str _) (.tup (SqT.of upd_same) (da5.same (same_new hp3)))
    · refine .mk ⟨by show (es.map Prod.snd).length ≤ 6; rw [List.length_map]; omega, (fun _ _ e => by cases e), fun _ _ e => by cases e⟩ fun k hk => ?_
      obtain ⟨e, he, rfl⟩ := List.mem_map.mp hk
      exact (ok e he).1
    · refine Tm.nh_le fun k hk => ?_
      obtain ⟨e, he, rfl⟩ := List.mem_map.mp hk
      exact (ok e he).2
  · -- a node
    refine drawn_con rfl rfl x1.pool nc (x1.keep _ _ nc hpc) (dc.ext P0 x1) c0 (by omega) _ fun H2 v con hcon x2 dcon => ?_
    have x12 := x1.trans x2
    obtain ⟨ac', z, rfl, hac⟩ := Con.get dcon
    have har := ac con hcon
    refine vTx rfl hac rfl ⟨(con.ar : Nat), rfl, by omega, by omega, fun D hD => lcX (K := K) (walk_range (lo := 0) (n := ((con.ar : Nat) : Int).toNat)) x2.pool hD (by omega) (fun ds => ∃ ts : List Tm, ds = ts.map Tm.d ∧ ∀ t ∈ ts, terOk cs t ∧ t.nh ≤ d') ⟨[], rfl, fun _ h => absurd h List.not_mem_nil⟩ (fun _ _ => trivial) ?_ ?_⟩
    · rintro i x5 H5 H5 ds R' hk x5' ⟨rfl, rfl⟩ ⟨ts, rfl, ok⟩ len' r
      have xx0 := x12.trans x5'
      refine ⟨rfl, _, rfl, _, rfl, _, rfl, _, _, rfl, rfl, _, rfl, l, c, pc, pw, cv, cs, ws, d', (by show [V.ref l, V.ref pc, V.int (((d' + 1 : Nat) : Int) - 1), V.ref pw] ++ [] = _; rw [ed]; rfl), by omega, x5'.pool, nc, nw, xx0.keep _ _ nc hpc, dc.ext P0 xx0, ac, c0, lc, xx0.keep _ _ nw hpw, lw, fun H6 v t x6 dv tok tht => ?_⟩
      refine r t.d v _ x6 dv ⟨ts ++ [t], by rw [List.map_append]; rfl, fun e he => ?_⟩
      rcases List.mem_append.mp he with h | h
      · exact ok e h
      · rw [List.mem_singleton.mp h]; exact ⟨tok, tht⟩
    rintro H5 vs5 ds5 x5 hvs5 da5 len5 ⟨ts, rfl, ok⟩
    rw [List.length_map] at len5
    have hac5 := x5.seqT x2.pool hac
    refine vTx rfl hac5 rfl ⟨_, rfl, D, _, rfl, .inl ⟨SqL.of hvs5, fun p3 hp3 => ⟨small (by show 3 ≤ _; decide), fun p4 hp4 => ?_⟩⟩⟩
    have y := ((x12.trans x5).new (o := .tup vs5) P0 hp3).new (o := .tup [.str "node", .str con.nm, .ref p3]) P0 hp4
    refine q _ _ (.node con.nm ts) y ?_ ?_ ?_
    · unfold Tm.d
      rw [Tm.ds_map]
      exact Dt.mk3 hp4 (.str _) (.str _) (.tup (SqT.of upd_same) (da5.same (same_new hp3)))
    · refine .mk ⟨by show ts.length ≤ 6; omega, (fun c' ts' e => ?_), fun _ _ e => by cases e⟩ fun k hk => (ok k hk).1
      cases e
      exact ⟨con, hcon, rfl, by omega⟩
    · exact Tm.nh_le fun k hk => (ok k hk).2
end
end PK
namespace PK
open PySem L2
/-! words, places and constructors, as the program holds them -/
section
variable {X : Cx} {x : Str} {p : Pos}
theorem pe_glS {s : Str} (hg : Gl X x) (h : ∃ t, X.mg x = some (.str s t)) (hd : (x == ("__debug__" : Str)) = false := by decide) : PE X (.Name x p) (tC (.str s)) := by
  obtain ⟨t, h⟩ := h
  exact pe_glob hg h ⟨_, rfl⟩ hd
end
theorem le_le {i j k : Int} {H : Hp} {Q : Bool → Hp → Prop} (h : Q (decide (i ≤ j ∧ j ≤ k)) H) :
    ∃ a b, V.int i = .int a ∧ V.int j = .int b ∧ ∃ y, V.bl (decide (a ≤ b)) = .bl y ∧ (if y = true then ∃ a b, V.int j = .int a ∧ V.int k = .int b ∧ ∃ z, V.bl (decide (a ≤ b)) = .bl z ∧ Q z H else ∃ z, V.bl false = .bl z ∧ Q z H) := by
  refine ⟨_, _, rfl, rfl, _, rfl, ?_⟩
  by_cases e : i ≤ j
  · rw [decide_eq_true e]
    refine iteT ⟨_, _, rfl, rfl, _, rfl, ?_⟩
    by_cases f : j ≤ k
    · rw [decide_eq_true f]; rwa [decide_eq_true ⟨e, f⟩] at h
    · rw [decide_eq_false f]; rwa [decide_eq_false (fun z => f z.2)] at h
  · rw [decide_eq_false e]
    refine iteF ⟨_, rfl, ?_⟩
    rwa [decide_eq_false (fun z => e z.1)] at h
/-- a list or a tuple -/
def Sq (K : PySem.W.Frag) (H : Hp) (p : Addr) (xs : List V) : Prop := SqL K H p xs ∨ SqT K H p xs
theorem Sq.same {K : PySem.W.Frag} {H H' : Hp} {p : Addr} {xs : List V} (h : Sq K H p xs) (e : Same H H') : Sq K H' p xs := h.imp (fun q => e.seq q) fun q => Same.seqT e q
theorem for_seq {K : PySem.W.Frag} {i : Nat} {p : Addr} {xs : List V} {g : TG} {tb : TS} {D : Ends} {σ : L2.St} {H0 H : Hp} (hq : Sq K H0 p xs) (hv : σ[i]? = some (some (.ref p))) (Pv : Nat → L2.St → Hp → Prop) (h0 : Pv 0 σ H)
    (hG : ∀ i σ H, i ≤ xs.length → Pv i σ H → Same H0 H) (hs : ∀ i x σ H, xs[i]? = some x → Pv i σ H → g x σ H fun σ2 H2 => tb { D with nx := Pv (i + 1), ct := Pv (i + 1), bk := D.nx } σ2 H2) (hd : ∀ σ H, Pv xs.length σ H → D.nx σ H) :
    tFor (fun σ H R => iList K (tVar i) σ H R ∨ iTup K (tVar i) σ H R) g tb D σ H := by
  have e0 := hG 0 σ H (Nat.zero_le _) h0
  rcases hq with hq | hq
  · refine .inl ⟨_, hv, p, rfl, ⟨xs, e0.seq hq⟩, for_it (walk_list (xs := xs)) Pv h0 (fun j σ H hj k => (hG j σ H hj k).seq hq) (fun j x σ H H' hj k y => ?_) hd⟩
    obtain ⟨rfl, gx⟩ := y
    exact hs j x σ H' gx k
  · refine .inr ⟨_, hv, p, rfl, ⟨xs, Same.seqT e0 hq⟩, for_it (walk_tup (xs := xs)) Pv h0 (fun j σ H hj k => Same.seqT (hG j σ H hj k) hq) (fun j x σ H H' hj k y => ?_) hd⟩
    obtain ⟨rfl, gx⟩ := y
    exact hs j x σ H' gx k
theorem walk_enumT {K : PySem.W.Frag} {a : Addr} {xs : List V} : Walk (PKR.ItE K a) xs.length (fun H => SqT K H a xs) (YPair (fun i => some (.int (i : Nat))) (fun i => xs[i]?)) := by
  refine ⟨fun i _ hi q => ⟨xs, xs[i], q, by simp [hi]⟩, fun _ q => ⟨xs, q, rfl⟩, fun i H v H' _ q y => ?_⟩
  obtain ⟨T, x, h1, h2, h3, h4⟩ := y
  exact ⟨T, .int (i : Nat), x, h1, h2, h3, rfl, h4 xs q⟩
theorem for_enum {K : PySem.W.Frag} {i : Nat} {p : Addr} {xs : List V} {g : TG} {tb : TS} {D : Ends} {σ : L2.St} {H0 H : Hp} (hq : Sq K H0 p xs) (hv : σ[i]? = some (some (.ref p))) (Pv : Nat → L2.St → Hp → Prop) (h0 : Pv 0 σ H)
    (hG : ∀ i σ H, i ≤ xs.length → Pv i σ H → Same H0 H) (hs : ∀ i x σ H T, xs[i]? = some x → Pv i σ H → H T = none → g (.ref T) σ (upd H T (.tup [.int (i : Nat), x])) fun σ2 H2 => tb { D with nx := Pv (i + 1), ct := Pv (i + 1), bk := D.nx } σ2 H2)
    (hd : ∀ σ H, Pv xs.length σ H → D.nx σ H) :
    tFor (fun σ H R => iEnum K (tCons (tVar i) tNil) σ H R ∨ PKR.iEnumT K (tCons (tVar i) tNil) σ H R) g tb D σ H := by
  have e0 := hG 0 σ H (Nat.zero_le _) h0
  rcases hq with hq | hq
  · refine .inl ⟨_, hv, p, xs, rfl, e0.seq hq, for_it (walk_enum (xs := xs)) Pv h0 (fun j σ H hj k => (hG j σ H hj k).seq hq) (fun j x σ H H' hj k y => ?_) hd⟩
    obtain ⟨T, a, b, rfl, hT, rfl, ea, eb⟩ := y
    cases ea
    exact hs j b σ H T eb k hT
  · refine .inr ⟨_, hv, p, xs, rfl, Same.seqT e0 hq, for_it (walk_enumT (xs := xs)) Pv h0 (fun j σ H hj k => Same.seqT (hG j σ H hj k) hq) (fun j x σ H H' hj k y => ?_) hd⟩
    obtain ⟨T, a, b, rfl, hT, rfl, ea, eb⟩ := y
    cases ea
    exact hs j b σ H T eb k hT
theorem le_lt {i j k : Int} {H : Hp} {Q : Bool → Hp → Prop} (h : Q (decide (i ≤ j ∧ j < k)) H) :
    ∃ a b, V.int i = .int a ∧ V.int j = .int b ∧ ∃ y, V.bl (decide (a ≤ b)) = .bl y ∧ (if y = true then ∃ u, some (some (V.int k)) = some (some u) ∧ ∃ a b, V.int j = .int a ∧ u = .int b ∧ ∃ z, V.bl (decide (a < b)) = .bl z ∧ Q z H else ∃ z, V.bl false = .bl z ∧ Q z H) := by
  refine ⟨_, _, rfl, rfl, _, rfl, ?_⟩
  by_cases e : i ≤ j
  · rw [decide_eq_true e]
    refine iteT ⟨_, rfl, _, _, rfl, rfl, _, rfl, ?_⟩
    by_cases f : j < k
    · rw [decide_eq_true f]; rwa [decide_eq_true ⟨e, f⟩] at h
    · rw [decide_eq_false f]; rwa [decide_eq_false (fun z => f z.2)] at h
  · rw [decide_eq_false e]
    refine iteF ⟨_, rfl, ?_⟩
    rwa [decide_eq_false (fun z => e z.1)] at h
def seenK (ks : List Key) : List (Key × V) := ks.map fun k => (k, V.bl true)
theorem seen_val (k : Key) : ∀ ks : List Key, (valV (seenK ks) k).isSome = true ↔ k ∈ ks
  | [] => by simp [seenK, valV]
  | a :: r => by
    rw [← valV_any]
    have ih := seen_val k r
    rw [← valV_any] at ih
    unfold seenK at ih ⊢
    rw [List.map_cons, List.any_cons, Bool.or_eq_true, ih, List.mem_cons, decide_eq_true_iff]
    exact ⟨fun h => h.imp Eq.symm id, fun h => h.imp Eq.symm id⟩
theorem seen_no {k : Key} {ks : List Key} (h : k ∉ ks) : valV (seenK ks) k = none := by
  cases e : valV (seenK ks) k with
  | none => rfl
  | some v => exact absurd ((seen_val k ks).mp (by rw [e]; rfl)) h
theorem seen_yes {k : Key} {ks : List Key} (h : k ∈ ks) : (valV (seenK ks) k).isSome = true := (seen_val k ks).mpr h
theorem seen_put {k : Key} {ks : List Key} (h : k ∉ ks) : putK (seenK ks) k (.bl true) = seenK (ks ++ [k]) := by
  rw [putK_new _ (seen_no h)]
  unfold seenK
  simp
theorem seen_len (ks : List Key) : (seenK ks).length = ks.length := List.length_map ..
structure TxtP (K : PySem.W.Frag) (mg : Str → Option Value) (aF aR : Addr) : Prop extends TxtT K mg aF where
  z_enumerate : mg "enumerate" = none
  g_MC : ∃ t, mg "MOST_CHARACTERS" = some (.int 12 t)
  g_MA : ∃ t, mg "MOST_ARGUMENTS" = some (.int 6 t)
  g_MO : ∃ t, mg "MOST_CONSTRUCTORS" = some (.int 40 t)
  g_MR : ∃ t, mg "MOST_RULES" = some (.int 60 t)
  g_LET : ∃ t, mg "LETTERS" = some (.str LET t)
  g_OTH : ∃ t, mg "WORD_CHARACTERS" = some (.str OTH t)
  g_R : mg "_RESERVED" = some (.ref aR)
  bar : ∀ H, SqT K H aR (BARRED.map V.str)
def isWd (x : Str) : Bool := decide (1 ≤ x.length ∧ x.length ≤ 12) && (decide (x.cps.toList.headD 0 ∈ LET.cps.toList) && x.cps.toList.all fun s => decide (s ∈ OTH.cps.toList))
def spWord : Sp := fun vs H Q _ => ∃ x : Str, vs = [.str x] ∧ x.length ≤ 1000 ∧ ∀ H', Same H H' → Q (.bl (isWd x)) H'
def spWhole : Sp := fun vs H Q _ => ∃ n : Int, vs = [.int n] ∧ Q (.bl true) H
theorem Wd.is {x : Str} (h : Wd x) : isWd x = true := by
  obtain ⟨s, r, e, hs⟩ := h.hd
  have h1 := h.lo
  have h2 := h.hi
  unfold isWd
  rw [decide_eq_true (show 1 ≤ x.length ∧ x.length ≤ 12 from ⟨h1, h2⟩), e, List.headD_cons, decide_eq_true hs, ← e]
  rw [Bool.true_and, Bool.true_and]
  exact List.all_eq_true.mpr fun z hz => decide_eq_true (h.al z hz)
theorem no_two {s : Str} {a b c : Nat} (ha : a ∈ s.cps.toList) (hb : b ∈ s.cps.toList) (la : a ∈ LM.cps.toList) (lb : b ∈ LM.cps.toList) (ne : a ≠ b) (x : Str) (t : Tag x c) : x ≠ s := fun e => by
  rw [e] at t
  exact two_lm ha hb la lb ne c t
theorem Con.good.bar {x : Con} (g : x.good) : x.nm ∉ BARRED := by
  obtain ⟨c, t⟩ := g.tag
  intro h
  have n := g.no
  have h := (by simpa using h : x.nm = "get" ∨ x.nm = "set" ∨ x.nm = "plus" ∨ x.nm = "minus" ∨ x.nm = "new" ∨ x.nm = "read" ∨ x.nm = "write" ∨ x.nm = "put")
  rcases h with e | e | e | e | e | e | e | e
  · exact n (by rw [e]; decide +kernel)
  · exact n (by rw [e]; decide +kernel)
  · exact n (by rw [e]; decide +kernel)
  · exact n (by rw [e]; decide +kernel)
  · exact n (by rw [e]; decide +kernel)
  · exact no_two (a := 101) (b := 97) (by decide +kernel) (by decide +kernel) (by decide +kernel) (by decide +kernel) (by decide) _ t e
  · exact no_two (a := 105) (b := 101) (by decide +kernel) (by decide +kernel) (by decide +kernel) (by decide +kernel) (by decide) _ t e
  · rw [e] at t
    have h1 := t.has
    have h2 := t.lm
    have key : ∀ z ∈ ("put" : Str).cps.toList, z ∉ LM.cps.toList := by decide +kernel
    exact key c h1 h2
/-- a constructor that is right -/
structure Con.fit (x : Con) : Prop where
  wd : Wd x.nm
  bar : x.nm ∉ BARRED
  kd : x.kd ∈ (["value", "plain"] : List Str)
  pl : plOk x.ar x.pl
theorem Con.good.fit {x : Con} (g : x.good) : x.fit := ⟨g.wd, g.bar, g.kd, g.pl⟩
/-- the program's checks of what is right -/
def spPl1 (K : PySem.W.Frag) : Sp := fun vs H Q _ => ∃ (p : Addr) (m : Nat) (ps : List Int), vs = [.ref p, .int (m : Nat)] ∧ SqT K H p (ps.map V.int) ∧ plOk m ps ∧ m ≤ 100 ∧ ∀ H', Same H H' → Q (.bl true) H'
def spCon1 (K : PySem.W.Frag) : Sp := fun vs H Q _ => ∃ (v : V) (x : Con), vs = [v] ∧ Dt K H v x.d ∧ x.fit ∧ x.ar ≤ 6 ∧ ∀ H', Same H H' → Q .non H'
def spChk1 (K : PySem.W.Frag) : Sp := fun vs H Q _ => ∃ (p : Addr) (ws : List V) (cs : List Con), vs = [.ref p] ∧ SqT K H p ws ∧ DtAll K H ws (cs.map Con.d) ∧ 1 ≤ cs.length ∧ cs.length ≤ 9 ∧ (cs.map Con.nm).Nodup ∧ (∀ x ∈ cs, x.fit ∧ x.ar ≤ 6) ∧ ∀ H', Same H H' → Q .non H'
section
variable {P : Program} {w : World} {K : PySem.W.Frag} {mg : Str → Option Value} {base : Heap} {aF aR : Addr}
abbrev s_is_word : Stmt := topS 6
theorem sc_is_word : FnScope ["text", "sign"] ["text"] (defScope s_is_word) := ⟨rfl, rfl, rfl, by decide +kernel, rfl, by decide +kernel, by decide +kernel⟩
-- slots: 0:text 1:sign(comp)
abbrev s_is_whole : Stmt := topS 7
theorem sc_is_whole : FnScope ["number"] ["number"] (defScope s_is_whole) := ⟨rfl, rfl, rfl, by decide +kernel, rfl, by decide +kernel, by decide +kernel⟩
-- slots: 0:number
abbrev s_are_places : Stmt := topS 53
theorem sc_are_places : FnScope ["strict", "many", "seen", "place"] ["strict", "many"] (defScope s_are_places) := ⟨rfl, rfl, rfl, by decide +kernel, rfl, by decide +kernel, by decide +kernel⟩
-- slots: 0:strict 1:many 2:seen 3:place
abbrev s_wrong_part_constructors : Stmt := topS 51
theorem sc_wrong_part_constructors : FnScope ["constructor", "name", "many", "kind", "strict"] ["constructor"] (defScope s_wrong_part_constructors) := ⟨rfl, rfl, rfl, by decide +kernel, rfl, by decide +kernel, by decide +kernel⟩
-- slots: 0:constructor 1:name 2:many 3:kind 4:strict
abbrev s_check_constructors : Stmt := topS 50
theorem sc_check_constructors : FnScope ["constructors", "number", "constructor", "reason", "seen"] ["constructors"] (defScope s_check_constructors) := ⟨rfl, rfl, rfl, by decide +kernel, rfl, by decide +kernel, by decide +kernel⟩
-- slots: 0:constructors 1:number 2:constructor 3:reason 4:seen
theorem ok_whole {f : Addr} {fd : FuncData} (F : Fun K "is_whole" "is_whole" s_is_whole f fd) (T : TxtP K mg aF aR) : FnOk P w K mg base CX0 1 f fd ["number"] spWhole := by
  refine F.ok sc_is_whole (fun vs H Q E h => ?_) (fun cdv A outer s H vs Q E hr h => ?_)
  · obtain ⟨x, rfl, _⟩ := h
    rfl
  obtain ⟨n, rfl, q⟩ := h
  refine ⟨_, (pss_one (ps_ret (pe_and (pe_callB call_isi (by rfl) T.z_isinstance (by decide +kernel) (pa_cons (pv 0) (pa_cons (pe_bltn (v := .ty "int") (by rfl) T.z_int (by decide +kernel) rfl) pa_nil))) (pe_one (pe_not (pe_callB call_isi (by rfl) T.z_isinstance (by decide +kernel) (pa_cons (pv 0) (pa_cons (pe_bltn (v := .ty "bool") (by rfl) T.z_bool (by decide +kernel) rfl) pa_nil)))))))), ?_⟩
  have ty : TyX K H (.int n) (.type "int") := .base (.int n)
  refine vIsi rfl ty (b := true) (by decide +kernel) ⟨_, rfl, iteT (vIsi rfl ty (b := false) (by decide +kernel) ⟨_, rfl, ?_⟩)⟩
  exact q
theorem ok_word {f : Addr} {fd : FuncData} (F : Fun K "is_word" "is_word" s_is_word f fd) (T : TxtP K mg aF aR) : FnOk P w K mg base CX0 1 f fd ["text"] spWord := by
  refine F.ok sc_is_word (fun vs H Q E h => ?_) (fun cdv A outer s H vs Q E hr h => ?_)
  · obtain ⟨x, rfl, _⟩ := h
    rfl
  obtain ⟨x, rfl, hx, q⟩ := h
  refine ⟨_, (pss_cons (ps_if (PW.pt (pw_or (pt_not (pt_val (pe_callB call_isi (by rfl) T.z_isinstance (by decide +kernel) (pa_cons (pv 0) (pa_cons (pe_bltn (v := .ty "str") (by rfl) T.z_str (by decide +kernel) rfl) pa_nil))))) (pw_or1 (pt_not (pt_chain op_le op_le pe_int (pe_callB call_len_str (by rfl) T.z_len (by decide +kernel) (pa_cons (pv 0) pa_nil)) (pe_glI (n := 12) rfl T.g_MC)))))) (pss_one (ps_ret pe_bl)) pss_nil)
    (pss_one (ps_ret (pe_and (pe_cmpR op_in_sign (pe_ix ix_str (pv 0) pe_int (fun _ _ => rfl)) (pe_glS (s := LET) rfl T.g_LET) rfl) (pe_one (pe_callB (cr_all (by rfl)) (by rfl) T.z_all (by decide +kernel) (pa_cons (pe_lc (own := [("sign", 1)]) (g := (gName 1)) (tt := tYes) (by rfl) sc_is_word.nd (pi_str (pv 0)) (blkOk_by (N := ["text", "sign"]) (sc := defScope s_is_word) (by decide +kernel)) (fun _ _ _ _ _ => (pg_name (i := 1) sc_is_word.nd rfl (Or.inl rfl))) (fun _ _ _ _ _ => pts_nil) (fun _ _ _ _ _ => (pe_cmpR op_in_sign (pv 1) (pe_glS (s := OTH) rfl T.g_OTH) rfl))) pa_nil))))))), ?_⟩
  have ty : TyX K H (.str x) (.type "str") := .base (.str x)
  refine vIsi rfl ty (b := true) (by decide +kernel) ?_
  refine ⟨_, rfl, iteF ⟨_, rfl, x, rfl, small (by omega), le_le ?_⟩⟩
  by_cases hl : 1 ≤ x.length ∧ x.length ≤ 12
  · rw [decide_eq_true (show (1 : Int) ≤ (x.length : Int) ∧ (x.length : Int) ≤ 12 by omega)]
    have en : x.cps.toList.length = x.length := (len_list x).symm
    obtain ⟨s0, r, e0⟩ : ∃ s0 r, x.cps.toList = s0 :: r := by
      cases e : x.cps.toList with
      | nil => rw [e] at en; simp at en; omega
      | cons a b => exact ⟨a, b, rfl⟩
    refine iteF ⟨_, rfl, x, 0, s0, rfl, rfl, small (by omega), by rw [e0]; exact atI_nat (j := 0) rfl, s0, LET, rfl, rfl, ⟨_, rfl, ?_⟩⟩
    have fin : isWd x = (decide (s0 ∈ LET.cps.toList) && x.cps.toList.all fun s => decide (s ∈ OTH.cps.toList)) := by
      unfold isWd
      rw [decide_eq_true hl, e0]; rfl
    by_cases h0 : s0 ∈ LET.cps.toList
    · rw [decide_eq_true h0]
      refine iteT ⟨_, rfl, x, rfl, fun D hD => lc_it (walk_str (z := x)) (fun i H' => Same H H' ∧ H' D = some (.lst (((x.cps.toList.take i).map fun s => decide (s ∈ OTH.cps.toList)).map V.bl))) ?_ (fun _ _ _ _ => trivial) ?_ ?_⟩
      · exact ⟨same_new hD, upd_same⟩
      · rintro i v H1 H2 hi ⟨sm, hd⟩ ⟨rfl, c, gc, rfl⟩
        have gl : x.cps.toList[i]? = some c := by simpa using gc
        refine ⟨rfl, yes_ ⟨_, rfl, c, OTH, rfl, rfl, _, hd, ?_, Same.upd sm hD, ?_⟩⟩
        · rw [List.length_map, List.length_map, List.length_take]; exact smallL (by omega)
        · rw [upd_same, List.take_add_one, gl]; simp
      · rintro H' ⟨sm, hd⟩
        have z : x.cps.toList.take x.cps.size = x.cps.toList := List.take_of_length_le (by simp)
        rw [z] at hd
        refine ⟨D, _, rfl, SqL.of hd, ?_⟩
        have := q H' sm
        rw [fin, decide_eq_true h0, Bool.true_and] at this
        rwa [List.all_map]
    · rw [decide_eq_false h0]
      refine iteF ?_
      have := q H (Same.refl H)
      rwa [fin, decide_eq_false h0, Bool.false_and] at this
  · rw [decide_eq_false (show ¬ ((1 : Int) ≤ (x.length : Int) ∧ (x.length : Int) ≤ 12) by omega)]
    have := q H (Same.refl H)
    unfold isWd at this
    rw [decide_eq_false hl, Bool.false_and] at this
    exact iteT this
theorem ok_pl1 {f : Addr} {fd : FuncData} (F : Fun K "_are_places" "_are_places" s_are_places f fd) (T : TxtP K mg aF aR) (C_is_whole : C8.Cal P w K mg base 1 "is_whole" spWhole []) :
    FnOk P w K mg base CX0 2 f fd ["strict", "many"] (spPl1 K) := by
  refine F.ok sc_are_places (fun vs H Q E h => ?_) (fun cdv A outer s H vs Q E hr h => ?_)
  · obtain ⟨_, _, _, rfl, _⟩ := h
    rfl
  obtain ⟨p, m, ps, rfl, hp, hpl, hm, q⟩ := h
  refine ⟨_, (pss_cons (ps_set (i := 2) sc_are_places.nd rfl (Or.inl rfl) pe_dnewK)
    (pss_cons (ps_for PassesOwn.never rfl (pi_tup (pv 0)) (pg_name (i := 3) sc_are_places.nd rfl (Or.inl rfl)) (pss_cons (ps_if (PW.pt (pw_or (pt_not (pt_val (C8.pe_c C_is_whole hr (by decide) rfl (pa_cons (pv 3) pa_nil)))) (pw_or (pt_not (pt_chain op_le op_lt pe_int (pv 3) (pv 1))) (pw_or1 (pt_cmp (pc_din (hu_of hr) (pv 3) (pv 2))))))) (pss_one (ps_ret pe_bl)) pss_nil)
    (pss_one (ps_dput (hu_of hr) (pv 2) (pv 3) pe_bl rfl))))
    (pss_one (ps_ret pe_bl)))), ?_⟩
  have lps := hpl.2.2
  intro d hd
  refine ⟨_, rfl, p, rfl, ⟨_, Same.seqT (same_new hd) hp⟩, for_it (walk_tup (K := K) (xs := ps.map V.int)) (fun i σ H' => ∃ o, σ = [some (.ref p), some (.int (m : Nat)), some (.ref d), o] ∧ Same H H' ∧ H' d = some (.dK (seenK ((ps.take i).map Sum.inl)))) ?_ (fun i σ H' _ h => ?_) ?_ ?_⟩
  · exact ⟨_, rfl, same_new hd, upd_same⟩
  · obtain ⟨_, _, s, _⟩ := h
    exact Same.seqT s hp
  · rintro i x σ H1 H1 hi ⟨o, rfl, s, hdd⟩ ⟨rfl, gx⟩
    rw [List.getElem?_map] at gx
    cases e0 : ps[i]? with
    | none => rw [e0] at gx; cases gx
    | some n =>
    rw [e0] at gx
    cases gx
    have hn := hpl.2.1 n (List.mem_of_getElem? e0)
    have hk : (Sum.inl n : Key) ∉ (ps.take i).map Sum.inl := fun z => by
      obtain ⟨n', h1, h2⟩ := List.mem_map.mp z
      cases h2
      obtain ⟨j, hj, ej⟩ := List.getElem_of_mem h1
      rw [List.length_take] at hj
      rw [List.getElem_take] at ej
      have := (List.getElem?_inj (by omega) hpl.1).mp ((List.getElem?_eq_getElem (show j < ps.length by omega)).trans ((congrArg some ej).trans e0.symm))
      omega
    have tk : ps.take (i + 1) = ps.take i ++ [n] := by rw [List.take_add_one, e0]; rfl
    have hlt : (seenK ((ps.take i).map Sum.inl)).length < sizeLine := by
      rw [seen_len, List.length_map, List.length_take]; exact smallL (by omega)
    refine ⟨_, rfl, n, rfl, ⟨_, rfl, iteF ⟨_, rfl, le_lt ?_⟩⟩⟩
    rw [decide_eq_true hn]
    refine iteF ⟨_, rfl, _, rfl, d, _, rfl, DGet.k (k := Sum.inl n) hdd, ?_⟩
    rw [seen_no hk]
    refine ⟨_, rfl, iteF ⟨_, rfl, _, rfl, d, _, rfl, DPut.k (k := Sum.inl n) hdd hlt, _, rfl, Same.upd s hd, ?_⟩⟩
    rw [upd_same, seen_put hk, tk, List.map_append]; rfl
  · rintro σ H1 ⟨o, rfl, s, hdd⟩
    exact q H1 s
theorem ok_con1 {f : Addr} {fd : FuncData} (F : Fun K "_wrong_part" "_wrong_part" s_wrong_part_constructors f fd) (T : TxtP K mg aF aR) (C_is_word : C8.Cal P w K mg base 1 "is_word" spWord []) (C_is_whole : C8.Cal P w K mg base 1 "is_whole" spWhole [])
    (C_are_places : C8.Cal P w K mg base 2 "_are_places" (spPl1 K) []) : FnOk P w K mg base CX0 3 f fd ["constructor"] (spCon1 K) := by
  refine F.ok sc_wrong_part_constructors (fun vs H Q E h => ?_) (fun cdv A outer s H vs Q E hr h => ?_)
  · obtain ⟨_, _, rfl, _⟩ := h
    rfl
  obtain ⟨v, x, rfl, hv, g, ha, q⟩ := h
  refine ⟨_, (pss_cons (ps_asg (pv 0) (pg_tup (by rfl) (pgs_cons (pg_name (i := 1) sc_wrong_part_constructors.nd rfl (Or.inl rfl)) (pgs_cons (pg_name (i := 2) sc_wrong_part_constructors.nd rfl (Or.inl rfl)) (pgs_cons (pg_name (i := 3) sc_wrong_part_constructors.nd rfl (Or.inl rfl)) (pgs_cons (pg_name (i := 4) sc_wrong_part_constructors.nd rfl (Or.inl rfl)) pgs_nil))))))
    (pss_cons (ps_if (PW.pt (pw_or (pt_not (pt_val (C8.pe_c C_is_word hr (by decide) rfl (pa_cons (pv 1) pa_nil)))) (pw_or1 (pt_cmpR op_in_seq (pv 1) (pe_glob (v := .ref aR) rfl T.g_R rfl) rfl)))) (pss_one (ps_ret pe_str)) pss_nil)
    (pss_cons (ps_if (PW.pt (pw_or (pt_not (pt_val (C8.pe_c C_is_whole hr (by decide) rfl (pa_cons (pv 2) pa_nil)))) (pw_or1 (pt_not (pt_chain op_le op_le pe_int (pv 2) (pe_glI (n := 6) rfl T.g_MA)))))) (pss_one (ps_ret pe_str)) pss_nil)
    (pss_cons (ps_if (pt_cmpR op_notIn_seq (pv 3) (pe_tup (pa_cons pe_str (pa_cons pe_str pa_nil))) rfl) (pss_one (ps_ret pe_str)) pss_nil)
    (pss_cons (ps_if (pt_not (pt_val (C8.pe_c C_are_places hr (by decide) rfl (pa_cons (pv 4) (pa_cons (pv 2) pa_nil))))) (pss_one (ps_ret pe_str)) pss_nil)
    (pss_one (ps_ret pe_non))))))), ?_⟩
  unfold Con.d at hv
  obtain ⟨a, ys, rfl, hs, dys⟩ := Dt.tn hv
  cases dys with | cons h1 t1 => cases t1 with | cons h2 t2 => cases t2 with | cons h3 t3 => cases t3 with | cons h4 t4 =>
  cases t4
  rw [h1.s, h2.i, h3.s] at hs
  obtain ⟨p, zs, rfl, hp, dzs⟩ := Dt.tn h4
  obtain rfl := dzs.intsE
  have wl : x.nm.length ≤ 12 := g.wd.hi
  refine ⟨_, rfl, a, _, rfl, hs, rfl, _, _, rfl, _, _, rfl, _, _, rfl, _, _, rfl, rfl, ?_⟩
  refine ⟨_, rfl, x.nm, rfl, by omega, fun H1 s1 => ⟨_, rfl, ?_⟩⟩
  rw [g.wd.is]
  refine iteF ⟨_, rfl, aR, _, rfl, .inr (T.bar _), rfl, flat_strs _, _, rfl, ?_⟩
  rw [inV_str, decide_eq_false g.bar]
  refine iteF ⟨_, rfl, (x.ar : Nat), rfl, ⟨_, rfl, iteF ⟨_, rfl, le_le ?_⟩⟩⟩
  rw [decide_eq_true (show (0 : Int) ≤ ((x.ar : Nat) : Int) ∧ ((x.ar : Nat) : Int) ≤ 6 by omega)]
  refine iteF ⟨_, rfl, small (by decide), fun t ht => ⟨t, _, rfl, .inr (SqT.of upd_same), rfl, flat_strs ["value", "plain"], _, rfl, ?_⟩⟩
  have s2 : Same H (upd H1 t (.tup [V.str "value", .str "plain"])) := Same.upd s1 (s1.free ht)
  rw [show inV (V.str x.kd) [V.str "value", .str "plain"] = decide (x.kd ∈ (["value", "plain"] : List Str)) from inV_str x.kd ["value", "plain"], decide_eq_true g.kd]
  refine iteF ⟨_, rfl, _, rfl, p, x.ar, x.pl, rfl, Same.seqT s2 hp, g.pl, by omega, fun H3 s3 => ⟨_, rfl, iteF ?_⟩⟩
  exact q H3 (s2.trans s3)
theorem ok_chk1 {f : Addr} {fd : FuncData} (F : Fun K "check_constructors" "check_constructors" s_check_constructors f fd) (T : TxtP K mg aF aR) (C_wrong_part_constructors : C8.Cal P w K mg base 3 "wrong_part_constructors" (spCon1 K) []) :
    FnOk P w K mg base CX0 4 f fd ["constructors"] (spChk1 K) := by
  refine F.ok sc_check_constructors (fun vs H Q E h => ?_) (fun cdv A outer s H vs Q E hr h => ?_)
  · obtain ⟨_, _, _, rfl, _⟩ := h
    rfl
  obtain ⟨p, ws, cs, rfl, hp, dcs, l1, l7, nd, good, q⟩ := h
  refine ⟨_, (pss_cons (ps_if (pt_not (pt_chain op_le op_le pe_int (pe_callB call_len_seq (by rfl) T.z_len (by decide +kernel) (pa_cons (pv 0) pa_nil)) (pe_glI (n := 40) rfl T.g_MO))) (pss_one ps_never) pss_nil)
    (pss_cons (ps_for PassesOwn.never rfl (PKR.pi_or (pi_enum (by rfl) T.z_enumerate (pa_cons (pv 0) pa_nil)) (PKR.pi_enumT (by rfl) T.z_enumerate (pa_cons (pv 0) pa_nil))) (pg_tup (by rfl) (pgs_cons (pg_name (i := 1) sc_check_constructors.nd rfl (Or.inl rfl)) (pgs_cons (pg_name (i := 2) sc_check_constructors.nd rfl (Or.inl rfl)) pgs_nil))) (pss_cons (ps_set (i := 3) sc_check_constructors.nd rfl (Or.inl rfl) (C8.pe_c C_wrong_part_constructors hr (by decide) rfl (pa_cons (pv 2) pa_nil)))
    (pss_one (ps_if (pt_cmpR op_notN (pv 3) pe_non (nomark _)) (pss_one ps_never) pss_nil))))
    (pss_cons (ps_set (i := 4) sc_check_constructors.nd rfl (Or.inl rfl) pe_dnewK)
    (pss_one (ps_for PassesOwn.never rfl (PKR.pi_or (pi_enum (by rfl) T.z_enumerate (pa_cons (pv 0) pa_nil)) (PKR.pi_enumT (by rfl) T.z_enumerate (pa_cons (pv 0) pa_nil))) (pg_tup (by rfl) (pgs_cons (pg_name (i := 1) sc_check_constructors.nd rfl (Or.inl rfl)) (pgs_cons (pg_name (i := 2) sc_check_constructors.nd rfl (Or.inl rfl)) pgs_nil))) (pss_cons (ps_if (pt_cmp (pc_din (hu_of hr) (pe_ix ix_tup (pv 2) pe_int (fun _ _ => rfl)) (pv 4))) (pss_one ps_never) pss_nil)
    (pss_one (ps_dput (hu_of hr) (pv 4) (pe_ix ix_tup (pv 2) pe_int (fun _ _ => rfl)) pe_bl rfl)))))))), ?_⟩
  have ew : ws.length = cs.length := by rw [dcs.lenD, List.length_map]
  refine ⟨_, rfl, p, ws, rfl, .inr hp, le_le ?_⟩
  rw [decide_eq_true (show (1 : Int) ≤ (ws.length : Int) ∧ (ws.length : Int) ≤ 40 by omega)]
  have at_ : ∀ (i : Nat) (v : V), ws[i]? = some v → ∃ x, cs[i]? = some x ∧ x ∈ cs ∧ Dt K H v x.d := fun i v e => by
    obtain ⟨d, gd, dx⟩ := dcs.getX e
    rw [List.getElem?_map] at gd
    cases e0 : cs[i]? with
    | none => rw [e0] at gd; cases gd
    | some y => rw [e0] at gd; cases gd; exact ⟨y, rfl, List.mem_of_getElem? e0, dx⟩
  refine iteF (for_enum (H0 := H) (.inr hp) rfl (fun i σ H' => ∃ a b c, σ = [some (.ref p), a, b, c, none] ∧ Same H H') ?_ (fun i σ H' _ h => ?_) ?_ ?_)
  · exact ⟨none, none, none, rfl, Same.refl H⟩
  · obtain ⟨_, _, _, _, h⟩ := h
    exact h
  · rintro i v σ H' t gv ⟨a, b, c, rfl, sm⟩ ht
    obtain ⟨x, gx, hx, dx⟩ := at_ i v gv
    have s1 : Same H (upd H' t (.tup [.int (i : Nat), v])) := Same.upd sm (sm.free ht)
    refine ⟨t, _, rfl, SqT.of upd_same, rfl, _, _, rfl, _, _, rfl, rfl, ?_⟩
    refine ⟨_, rfl, v, x, rfl, dx.same s1, (good x hx).1, (good x hx).2, fun H2 s2 => ⟨_, rfl, rfl, _, rfl, iteF ⟨_, _, _, rfl, s1.trans s2⟩⟩⟩
  · rintro σ H' ⟨a, b, c, rfl, sm⟩
    intro d hd
    have hd0 : H d = none := sm.free hd
    refine for_enum (H0 := H) (.inr hp) rfl (fun i σ H' => ∃ a b c, σ = [some (.ref p), a, b, c, some (.ref d)] ∧ Same H H' ∧ H' d = some (.dK (seenK ((cs.take i).map fun r => Sum.inr r.nm)))) ?_ (fun i σ H' _ h => ?_) ?_ ?_
    · exact ⟨_, _, _, rfl, Same.upd sm hd0, upd_same⟩
    · obtain ⟨_, _, _, _, h, _⟩ := h
      exact h
    · rintro i v σ H' t gv ⟨a, b, c, rfl, sm, hdd⟩ ht
      obtain ⟨x, gx, hx, dx⟩ := at_ i v gv
      have s1 : Same H (upd H' t (.tup [.int (i : Nat), v])) := Same.upd sm (sm.free ht)
      obtain ⟨ra, rz, rfl, hs⟩ := Con.get (dx.same s1)
      have hdt : (upd H' t (.tup [.int (i : Nat), .ref ra])) d = some (.dK (seenK ((cs.take i).map fun r => Sum.inr r.nm))) := by rw [upd_ne (ne_of_none hdd ht)]; exact hdd
      refine ⟨t, _, rfl, SqT.of upd_same, rfl, _, _, rfl, _, _, rfl, rfl, ?_⟩
      refine ⟨_, rfl, ra, _, 0, _, rfl, rfl, hs, atI_nat (j := 0) rfl, _, rfl, d, _, rfl, DGet.k (k := Sum.inr x.nm) hdt, ?_⟩
      have hm2 : (Sum.inr x.nm : Key) ∉ (cs.take i).map fun r => Sum.inr r.nm := fun z => by
        obtain ⟨r, h1, h2⟩ := List.mem_map.mp z
        have h2 : r.nm = x.nm := Sum.inr.inj h2
        obtain ⟨j, hj, ej⟩ := List.getElem_of_mem h1
        rw [List.length_take] at hj
        rw [List.getElem_take] at ej
        have g1 : (cs.map Con.nm)[j]? = some x.nm := by rw [List.getElem?_map, List.getElem?_eq_getElem (by omega), ej]; exact congrArg some h2
        have g2 : (cs.map Con.nm)[i]? = some x.nm := by rw [List.getElem?_map, gx]; rfl
        have := (List.getElem?_inj (by rw [List.length_map]; omega) nd).mp (g1.trans g2.symm)
        omega
      rw [seen_no hm2]
      have tk : cs.take (i + 1) = cs.take i ++ [x] := by rw [List.take_add_one, gx]; rfl
      have hlt : (seenK ((cs.take i).map fun r => Sum.inr r.nm)).length < sizeLine := by
        rw [seen_len, List.length_map, List.length_take]; exact smallL (by omega)
      refine ⟨_, rfl, iteF ⟨_, rfl, _, rfl, ra, _, 0, _, rfl, rfl, hs, atI_nat (j := 0) rfl, d, _, rfl, DPut.k (k := Sum.inr x.nm) hdt hlt, _, _, _, rfl, Same.upd s1 hd0, ?_⟩⟩
      rw [upd_same, seen_put hm2, tk, List.map_append]; rfl
    · rintro σ H' ⟨a, b, c, rfl, sm, hdd⟩
      exact q H' sm
end
end PK
namespace PK
open PySem L2
/-! languages without rules -/
def rTupOf (K : PySem.W.Frag) : List V → Hp → VK → Prop := fun xs H Q => ∃ p ys, xs = [.ref p] ∧ ((SqL K H p ys ∧ ∀ l, H l = none → Q (.ref l) (upd H l (.tup ys))) ∨ (SqT K H p ys ∧ Q (.ref p) H))
structure CalC (P : Program) (w : World) (K : PySem.W.Frag) (mg : Str → Option Value) (base : Heap) (k : Nat) (x : Str) (C : Addr) (sp : Sp) : Prop where
  gC : mg x = some (.ref C)
  ex : ∃ (f : Addr) (fd : FuncData) (ps : List Str), Mk K C f ∧ FnOk P w K mg base CX0 k f fd ps sp ∧ Binds K fd ps []
section
variable {X : Cx} {k j : Nat} {x : Str} {sp : Sp} {p pos : Pos} {e : Expr} {es : List Expr} {t : TA} {C : Addr}
theorem pe_mk (c : CalC X.prog X.w X.K X.mg X.base k x C sp) (hr : Room j X.A) (hk : k + 1 ≤ j) (hg : Gl X x) (ha : PA X (e :: es) t)
    (hdb : (x == ("__debug__" : Str)) = false := by decide) (he : starEach (e :: es) X.env = (false, eval e X.env) :: starEach es X.env := by rfl) (hpl : (backTo pos (starEach es X.env)).any (·.1) = false := by rfl) :
    PE X (.Call (.Name x p) (e :: es) [] pos) (tMake C sp [] C8.E0 t) := by
  obtain ⟨f, fd, ps, M, F, b⟩ := c.ex
  exact pe_make M F (hr.mono hk) hg c.gC b .nil pass0 ha hdb he hpl
end
structure LTx (K : PySem.W.Frag) (C : Addr) : Prop where
  cl : Cls K C
  nC : NoAttr K C "constructors"
  nT : NoAttr K C "_table"
  nR : NoAttr K C "rules"
/-- an own object's field is put -/
theorem putF_one (f : Str) (v : V) : putF f v [] = [(f, v)] := rfl
section
variable {K : PySem.W.Frag} {H H' H1 : Hp} {p C dx : Addr}
theorem Keep.trans {l : Addr} {H H1 H2 : Hp} (x : Keep l H H1) (y : Keep l H1 H2) : Keep l H H2 := fun b o hb h => y b o hb (x b o hb h)
theorem Keep.ofSame {l : Addr} {H H1 : Hp} (s : Same H H1) : Keep l H H1 := fun b o _ h => s b o h
theorem seqT_keep {a : Addr} {xs : List V} {fs : List (Str × V)} (h : SqT K H a xs) (k : Keep p H H') (hp : H p = some (.ins C dx fs)) : SqT K H' a xs := by
  have ne : ∀ {o : HO}, H a = some o → (∀ C dx fs, o ≠ .ins C dx fs) → a ≠ p := fun e d z => by
    subst z
    rw [hp] at e; cases e
    exact d _ _ _ rfl
  rcases h with (h | ⟨o, h⟩) | h
  · exact .inl (.inl (k _ _ (ne h (fun _ _ _ => HO.noConfusion)) h))
  · exact .inl (.inr ⟨o, k _ _ (ne h (fun _ _ _ => HO.noConfusion)) h⟩)
  · exact .inr h
theorem Dt.keep {d : PyData} {v : V} {fs : List (Str × V)} (h : Dt K H v d) (k : Keep p H H') (hp : H p = some (.ins C dx fs)) : Dt K H' v d := Dt.mono (fun _ _ q => seqT_keep q k hp) d v h
theorem DtAll.keep {d : List PyData} {v : List V} {fs : List (Str × V)} (h : DtAll K H v d) (k : Keep p H H') (hp : H p = some (.ins C dx fs)) : DtAll K H' v d := DtAll.mono (fun _ _ q => seqT_keep q k hp) d v h
end
/-- a language: its constructors -/
structure Lng (K : PySem.W.Frag) (C : Addr) (H : Hp) (o : Addr) (cs : List Con) : Prop where
  at_ : ∃ (dx cp dT : Addr) (ru : V) (kvs : List (Key × V)), H o = some (.ins C dx [("constructors", .ref cp), ("_table", .ref dT), ("rules", ru)]) ∧ Dt K H (.ref cp) (.tuple (cs.map Con.d)) ∧ H dT = some (.dK kvs) ∧ ∀ c ∈ cs, ∃ v, valV kvs (.inr c.nm) = some v ∧ Dt K H v c.d
theorem Lng.same {K : PySem.W.Frag} {C : Addr} {H H' : Hp} {o : Addr} {cs : List Con} (h : Lng K C H o cs) (s : Same H H') : Lng K C H' o cs := by
  obtain ⟨dx, cp, dT, ru, kvs, h1, h3, h4, h5⟩ := h.at_
  exact ⟨dx, cp, dT, ru, kvs, s _ _ h1, h3.same s, s _ _ h4, fun c hc => let ⟨v, e1, e2⟩ := h5 c hc; ⟨v, e1, e2.same s⟩⟩
theorem Lng.ext {K : PySem.W.Frag} {C : Addr} {H H' : Hp} {o : Addr} {cs : List Con} {l c : Addr} (h : Lng K C H o cs) (P : Pool H l c) (x : Ext l c H H') : Lng K C H' o cs := by
  obtain ⟨dx, cp, dT, ru, kvs, h1, h3, h4, h5⟩ := h.at_
  have no : ∀ {b : Addr} {u : HO}, H b = some u → (∀ xs, u ≠ .lst xs) → b ≠ l := fun e d z => by
    obtain ⟨ns, i, r, s, hl, _⟩ := P
    rw [z, hl] at e
    cases e
    exact d _ rfl
  exact ⟨dx, cp, dT, ru, kvs, x.keep _ _ (no h1 fun _ => HO.noConfusion) h1, h3.ext P x, x.keep _ _ (no h4 fun _ => HO.noConfusion) h4, fun c hc => let ⟨v, e1, e2⟩ := h5 c hc; ⟨v, e1, e2.ext P x⟩⟩
def spNo : Sp := fun _ _ _ _ => False
def spRules0 (K : PySem.W.Frag) : Sp := fun vs H Q _ => ∃ (v : V) (r : Addr), vs = [v, .ref r] ∧ SqT K H r [] ∧ ∀ H', Same H H' → Q .non H'
def spLInit (K : PySem.W.Frag) (C : Addr) : Sp := fun vs H Q _ => ∃ (o dx p r : Addr) (ws : List V) (cs : List Con), vs = [.ref o, .ref p, .ref r] ∧ H o = some (.ins C dx []) ∧ SqT K H p ws ∧ DtAll K H ws (cs.map Con.d) ∧ SqT K H r [] ∧ 1 ≤ cs.length ∧ cs.length ≤ 9 ∧ (cs.map Con.nm).Nodup ∧ (∀ x ∈ cs, x.fit ∧ x.ar ≤ 6) ∧
  ∀ H', Keep o H H' → Lng K C H' o cs → Q .non H'
section
variable {P : Program} {w : World} {K : PySem.W.Frag} {mg : Str → Option Value} {base : Heap} {aF aR C : Addr}
abbrev s_wrong_part_languages : Stmt := topS 80
theorem sc_wrong_part_languages : FnScope ["table", "rule", "name", "pattern", "conditions", "action", "result", "reason", "words", "sorts"] ["table", "rule"] (defScope s_wrong_part_languages) := ⟨rfl, rfl, rfl, by decide +kernel, rfl, by decide +kernel, by decide +kernel⟩
-- slots: 0:table 1:rule 2:name 3:pattern 4:conditions 5:action 6:result 7:reason 8:words 9:sorts
abbrev s_check_rules : Stmt := topS 79
theorem sc_check_rules : FnScope ["table", "rules", "number", "rule", "reason", "seen"] ["table", "rules"] (defScope s_check_rules) := ⟨rfl, rfl, rfl, by decide +kernel, rfl, by decide +kernel, by decide +kernel⟩
-- slots: 0:table 1:rules 2:number 3:rule 4:reason 5:seen
abbrev s_Language___init__ : Stmt := (C8.clsBody (topS 78)).getD 0 (.Pass ⟨0, 0, 0, 0⟩)
theorem sc_Language___init__ : FnScope ["self", "constructors", "rules", "constructor", "name", "many", "kind", "strict", "pattern", "conditions", "action", "result"] ["self", "constructors", "rules"] (defScope s_Language___init__) := ⟨rfl, rfl, rfl, by decide +kernel, rfl, by decide +kernel, by decide +kernel⟩
-- slots: 0:self 1:constructors 2:rules 3:constructor(comp) 4:name(comp) 5:many(comp) 6:kind(comp) 7:strict(comp) 8:pattern(comp) 9:conditions(comp) 10:action(comp) 11:result(comp)
theorem ok_rules0 {f : Addr} {fd : FuncData} (F : Fun K "_check_rules" "_check_rules" s_check_rules f fd) (T : TxtP K mg aF aR) (C_wrong_part_languages : C8.Cal P w K mg base 1 "wrong_part_languages" spNo []) :
    FnOk P w K mg base CX0 2 f fd ["table", "rules"] (spRules0 K) := by
  refine F.ok sc_check_rules (fun vs H Q E h => ?_) (fun cdv A outer s H vs Q E hr h => ?_)
  · obtain ⟨_, _, rfl, _⟩ := h
    rfl
  obtain ⟨v, r, rfl, hr', q⟩ := h
  refine ⟨_, (pss_cons (ps_if (pt_cmpR op_gt (pe_callB call_len_seq (by rfl) T.z_len (by decide +kernel) (pa_cons (pv 1) pa_nil)) (pe_glI (n := 60) rfl T.g_MR) (nomark _)) (pss_one ps_never) pss_nil)
    (pss_cons (ps_for PassesOwn.never rfl (PKR.pi_or (pi_enum (by rfl) T.z_enumerate (pa_cons (pv 1) pa_nil)) (PKR.pi_enumT (by rfl) T.z_enumerate (pa_cons (pv 1) pa_nil))) (pg_tup (by rfl) (pgs_cons (pg_name (i := 2) sc_check_rules.nd rfl (Or.inl rfl)) (pgs_cons (pg_name (i := 3) sc_check_rules.nd rfl (Or.inl rfl)) pgs_nil))) (pss_cons (ps_set (i := 4) sc_check_rules.nd rfl (Or.inl rfl) (C8.pe_c C_wrong_part_languages hr (by decide) rfl (pa_cons (pv 0) (pa_cons (pv 3) pa_nil))))
    (pss_one (ps_if (pt_cmpR op_notN (pv 4) pe_non (nomark _)) (pss_one ps_never) pss_nil))))
    (pss_cons (ps_set (i := 5) sc_check_rules.nd rfl (Or.inl rfl) pe_dnewK)
    (pss_one (ps_for PassesOwn.never rfl (PKR.pi_or (pi_enum (by rfl) T.z_enumerate (pa_cons (pv 1) pa_nil)) (PKR.pi_enumT (by rfl) T.z_enumerate (pa_cons (pv 1) pa_nil))) (pg_tup (by rfl) (pgs_cons (pg_name (i := 2) sc_check_rules.nd rfl (Or.inl rfl)) (pgs_cons (pg_name (i := 3) sc_check_rules.nd rfl (Or.inl rfl)) pgs_nil))) (pss_cons (ps_if (pt_cmp (pc_din (hu_of hr) (pe_ix ix_tup (pv 3) pe_int (fun _ _ => rfl)) (pv 5))) (pss_one ps_never) pss_nil)
    (pss_one (ps_dput (hu_of hr) (pv 5) (pe_ix ix_tup (pv 3) pe_int (fun _ _ => rfl)) pe_bl rfl)))))))), ?_⟩
  refine ⟨_, rfl, r, _, rfl, .inr hr', _, _, rfl, rfl, _, rfl, iteF ?_⟩
  refine for_enum (H0 := H) (.inr hr') rfl (fun i σ H' => ∃ a b c d, σ = [some v, some (.ref r), a, b, c, d] ∧ Same H H') ?_ (fun i σ H' _ h => ?_) ?_ ?_
  · exact ⟨_, _, _, _, rfl, Same.refl H⟩
  · obtain ⟨_, _, _, _, _, h⟩ := h
    exact h
  · rintro i v σ H' t gv _ _
    simp at gv
  rintro σ H1 ⟨a, b, c, d, rfl, s1⟩
  intro D hD
  refine for_enum (H0 := H) (.inr hr') rfl (fun i σ H' => Same H H') (Same.upd s1 (s1.free hD)) (fun i σ H' _ h => h) ?_ fun σ H' h => q H' h
  rintro i v σ H' t gv _ _
  simp at gv
set_option maxHeartbeats 3200000 in
theorem ok_linit {f : Addr} {fd : FuncData} (F : Fun K "__init__" "Language.__init__" s_Language___init__ f fd) (T : TxtP K mg aF aR) (X : LTx K C) (C_check_constructors : C8.Cal P w K mg base 4 "check_constructors" (spChk1 K) []) (C_check_rules : C8.Cal P w K mg base 2 "_check_rules" (spRules0 K) []) :
    FnOk P w K mg base CX0 5 f fd ["self", "constructors", "rules"] (spLInit K C) := by
  refine F.ok sc_Language___init__ (fun vs H Q E h => ?_) (fun cdv A outer s H vs Q E hr h => ?_)
  · obtain ⟨_, _, _, _, _, _, rfl, _⟩ := h
    rfl
  obtain ⟨o, dx, p, r, ws, cs, rfl, ho, hp, dcs, hr', l1, l7, nd, good, q⟩ := h
  refine ⟨_, (pss_cons (ps_expr (C8.pe_c C_check_constructors hr (by decide) rfl (pa_cons (pv 1) pa_nil)))
    (pss_cons (ps_fld (pv 0) (pe_callTy call_tuple_of (by rfl) T.z_tuple (by decide +kernel) (pa_cons (pe_lc (own := [("name", 4), ("many", 5), ("kind", 6), ("strict", 7)]) (g := (gTup K 4 (gCons (gName 4) (gCons (gName 5) (gCons (gName 6) (gCons (gName 7) gNil)))))) (tt := tYes) (by rfl) sc_Language___init__.nd (pi_tup (pv 1)) (blkOk_by (N := ["self", "constructors", "rules", "constructor", "name", "many", "kind", "strict", "pattern", "conditions", "action", "result"]) (sc := defScope s_Language___init__) (by decide +kernel)) (fun _ _ _ _ _ => (pg_tup (by rfl) (pgs_cons (pg_name (i := 4) sc_Language___init__.nd rfl (Or.inl rfl)) (pgs_cons (pg_name (i := 5) sc_Language___init__.nd rfl (Or.inl rfl)) (pgs_cons (pg_name (i := 6) sc_Language___init__.nd rfl (Or.inl rfl)) (pgs_cons (pg_name (i := 7) sc_Language___init__.nd rfl (Or.inl rfl)) pgs_nil)))))) (fun _ _ _ _ _ => pts_nil) (fun _ _ _ _ _ => (pe_tup (pa_cons (pv 4) (pa_cons (pv 5) (pa_cons (pv 6) (pa_cons (pe_callTy (T := "tuple") (r := rTupOf K) call_tuple_of (by rfl) T.z_tuple (by decide +kernel) (pa_cons (pv 7) pa_nil)) pa_nil))))))) pa_nil)) rfl)
    (pss_cons (ps_fld (pv 0) (pe_dc (own := [("constructor", 3)]) (g := (gName 3)) (tt := tYes) (by rfl) sc_Language___init__.nd (pi_tup (pe_fld (pv 0) rfl)) (blkOk_by (N := ["self", "constructors", "rules", "constructor", "name", "many", "kind", "strict", "pattern", "conditions", "action", "result"]) (sc := defScope s_Language___init__) (by decide +kernel)) (fun _ _ _ _ _ => (pg_name (i := 3) sc_Language___init__.nd rfl (Or.inl rfl))) (fun _ _ _ _ _ => pts_nil) (fun _ _ _ _ _ => (pe_ix (r := rIxT K) ix_tup (pv 3) pe_int (fun _ _ => rfl))) (fun _ _ _ _ _ => (pv 3))) rfl)
    (pss_cons (ps_expr (C8.pe_c C_check_rules hr (by decide) rfl (pa_cons (pe_fld (pv 0) rfl) (pa_cons (pv 2) pa_nil))))
    (pss_one (ps_fld (pv 0) (pe_callTy call_tuple_of (by rfl) T.z_tuple (by decide +kernel) (pa_cons (pe_lc (own := [("name", 4), ("pattern", 8), ("conditions", 9), ("action", 10), ("result", 11)]) (g := (gTup K 5 (gCons (gName 4) (gCons (gName 8) (gCons (gName 9) (gCons (gName 10) (gCons (gName 11) gNil))))))) (tt := tYes) (by rfl) sc_Language___init__.nd (pi_tup (pv 2)) (blkOk_by (N := ["self", "constructors", "rules", "constructor", "name", "many", "kind", "strict", "pattern", "conditions", "action", "result"]) (sc := defScope s_Language___init__) (by decide +kernel)) (fun _ _ _ _ _ => (pg_tup (by rfl) (pgs_cons (pg_name (i := 4) sc_Language___init__.nd rfl (Or.inl rfl)) (pgs_cons (pg_name (i := 8) sc_Language___init__.nd rfl (Or.inl rfl)) (pgs_cons (pg_name (i := 9) sc_Language___init__.nd rfl (Or.inl rfl)) (pgs_cons (pg_name (i := 10) sc_Language___init__.nd rfl (Or.inl rfl)) (pgs_cons (pg_name (i := 11) sc_Language___init__.nd rfl (Or.inl rfl)) pgs_nil))))))) (fun _ _ _ _ _ => pts_nil) (fun _ _ _ _ _ => (pe_tup (pa_cons (pv 4) (pa_cons (pv 8) (pa_cons (pe_callTy (T := "tuple") (r := rTupOf K) call_tuple_of (by rfl) T.z_tuple (by decide +kernel) (pa_cons (pv 9) pa_nil)) (pa_cons (pv 10) (pa_cons (pv 11) pa_nil)))))))) pa_nil)) rfl)))))), ?_⟩
  have ew : ws.length = cs.length := by rw [dcs.lenD, List.length_map]
  refine ⟨_, rfl, p, ws, cs, rfl, hp, dcs, l1, l7, nd, good, fun H1 s1 => ?_⟩
  have hp1 := Same.seqT s1 hp
  refine ⟨_, rfl, p, rfl, ⟨_, hp1⟩, fun D hD => lcS (K := K) (walk_tup (xs := ws)) hD (by omega) (fun ds => ds = (cs.take ds.length).map Con.d) rfl (fun H' s => Same.seqT s hp1) ?_ ?_⟩
  · rintro i x H2 H2 ds R hi s2 ⟨rfl, gx⟩ jd len k
    obtain ⟨dd, gd, dx'⟩ := dcs.getX gx
    rw [List.getElem?_map] at gd
    cases e0 : cs[i]? with
    | none => rw [e0] at gd; cases gd
    | some y =>
    rw [e0] at gd
    cases gd
    have dx2 := dx'.same (s1.trans s2)
    unfold Con.d at dx2
    obtain ⟨a, ys, rfl, hs, dys⟩ := Dt.tn dx2
    cases dys with | cons h1 t1 => cases t1 with | cons h2 t2 => cases t2 with | cons h3 t3 => cases t3 with | cons h4 t4 =>
    cases t4
    rw [h1.s, h2.i, h3.s] at hs
    have h4' := h4
    obtain ⟨pp, zs, rfl, hpp, dzs⟩ := Dt.tn h4
    refine ⟨a, _, rfl, hs, rfl, _, _, rfl, _, _, rfl, _, _, rfl, _, _, rfl, rfl, rfl, ?_⟩
    refine ⟨_, rfl, _, rfl, _, rfl, _, rfl, pp, zs, rfl, .inr ⟨hpp, small (by show 4 ≤ _; decide), fun q4 hq4 => ?_⟩⟩
    refine k y.d _ _ (same_new hq4) ?_ ?_
    · exact .tup (SqT.of upd_same) (.cons (.str _) (.cons (.int _) (.cons (.str _) (.cons (h4'.new hq4) .nil))))
    · rw [List.length_append, len, show i + [y.d].length = i + 1 from rfl, List.take_add_one, e0, List.map_append]
      rw [len] at jd
      rw [← jd]; rfl
  rintro H2 vs ds s2 hvs da len jd
  rw [len, ew, List.take_length] at jd
  subst jd
  refine ⟨D, _, rfl, .inl ⟨SqL.of hvs, fun cp hcp => ?_⟩⟩
  have s3 := (s1.trans s2).trans (same_new (o := .tup vs) hcp)
  have ho3 := s3 _ _ ho
  have hr3 := Same.seqT s3 hr'
  have dcp3 : Dt K (upd H2 cp (.tup vs)) (.ref cp) (.tuple (cs.map Con.d)) := .tup (SqT.of upd_same) (da.same (same_new hcp))
  generalize upd H2 cp (HO.tup vs) = H3 at *
  refine ⟨_, rfl, o, C, dx, _, rfl, ho3, X.cl, X.nC, (by show 0 < 1000; decide), ?_⟩
  have k3 : ∀ fs, Keep o H3 (upd H3 o (.ins C dx fs)) := fun fs b u hb h => by rw [upd_ne hb]; exact h
  have dcp4 := dcp3.keep (k3 (putF "constructors" (.ref cp) [])) ho3
  have hr4 := seqT_keep hr3 (k3 (putF "constructors" (.ref cp) [])) ho3
  have ho4 : (upd H3 o (.ins C dx (putF "constructors" (.ref cp) []))) o = some (.ins C dx [("constructors", .ref cp)]) := upd_same
  have K4 : Keep o H (upd H3 o (.ins C dx (putF "constructors" (.ref cp) []))) := (Keep.ofSame s3).trans (k3 _)
  generalize upd H3 o (.ins C dx (putF "constructors" (.ref cp) [])) = H4 at *
  obtain ⟨cp', us, ecp, hcp4, dus⟩ := Dt.tn dcp4
  cases ecp
  have lus : us.length = cs.length := by rw [dus.lenD, List.length_map]
  refine ⟨_, rfl, o, C, dx, _, _, rfl, ho4, X.cl, X.nC, rfl, cp, rfl, ⟨_, hcp4⟩, fun Dt_ hDt => dc_tup (K := K) (a := cp) (xs := us) (fun i H' => ∃ kvs, Same H4 H' ∧ H' Dt_ = some (.dK kvs) ∧ kvs.length ≤ i ∧ ∀ r ∈ cs.take i, ∃ v, valV kvs (.inr r.nm) = some v ∧ Dt K H' v r.d) ?_ ?_ ?_ ?_⟩
  · exact ⟨[], same_new hDt, upd_same, Nat.zero_le _, fun r hr => by rw [List.take_zero] at hr; cases hr⟩
  · rintro i H' hi ⟨_, s, _⟩
    exact Same.seqT s hcp4
  · rintro i x H' gx ⟨kvs, s, hd, lk, hk⟩
    obtain ⟨dd, gd, dx'⟩ := dus.getX gx
    have hi := (List.getElem?_eq_some_iff.mp gx).1
    rw [List.getElem?_map] at gd
    cases e0 : cs[i]? with
    | none => rw [e0] at gd; cases gd
    | some y =>
    rw [e0] at gd
    cases gd
    have dy := dx'.same s
    obtain ⟨ra, rz, rfl, hs⟩ := Con.get dy
    have lz := length_putK kvs (.inr y.nm) (V.ref ra)
    refine ⟨rfl, yes_ (vTx rfl hs rfl ⟨_, rfl, kvs, .inr y.nm, rfl, hd, smallL (by omega), _, Same.upd s hDt, upd_same, by omega, fun r2 hr2 => ?_⟩)⟩
    have up : ∀ {v : V} {d : PyData}, Dt K H' v d → Dt K (upd H' Dt_ (.dK (putK kvs (.inr y.nm) (.ref ra)))) v d := fun h => Dt.mono (fun _ _ z => seqT_updK z hd) _ _ h
    rw [valV_put]
    by_cases en : r2.nm = y.nm
    · rw [if_pos (by rw [en])]
      rw [List.take_add_one, e0] at hr2
      rcases List.mem_append.mp hr2 with h | h
      · exfalso
        obtain ⟨j, hj, ej⟩ := List.getElem_of_mem h
        rw [List.length_take] at hj
        rw [List.getElem_take] at ej
        have g1 : (cs.map Con.nm)[j]? = some y.nm := by rw [List.getElem?_map, List.getElem?_eq_getElem (by omega), ej]; exact congrArg some en
        have g2 : (cs.map Con.nm)[i]? = some y.nm := by rw [List.getElem?_map, e0]; rfl
        have := (List.getElem?_inj (by rw [List.length_map]; omega) nd).mp (g1.trans g2.symm)
        omega
      · obtain rfl : r2 = y := by simpa using h
        exact ⟨_, rfl, up dy⟩
    · rw [if_neg (fun z => en (Sum.inr.inj z))]
      rw [List.take_add_one, e0] at hr2
      rcases List.mem_append.mp hr2 with h | h
      · obtain ⟨v2, k1, k2⟩ := hk r2 h
        exact ⟨v2, k1, up k2⟩
      · exact absurd (by rw [show r2 = y by simpa using h]) en
  · rintro H5 ⟨kvs, s5, hd5, _, hk5⟩
    rw [lus, List.take_length] at hk5
    have nT : Dt_ ≠ o := fun z => by rw [z] at hd5; have := s5 _ _ ho4; rw [hd5] at this; cases this
    have ho5 := s5 _ _ ho4
    have dcp5 := dcp4.same s5
    have hr5 := Same.seqT s5 hr4
    have K5 := K4.trans (Keep.ofSame s5)
    refine ⟨_, rfl, o, C, dx, _, rfl, ho5, X.cl, X.nT, (by show 1 < 1000; decide), ?_⟩
    have k5 : ∀ fs, Keep o H5 (upd H5 o (.ins C dx fs)) := fun fs b u hb h => by rw [upd_ne hb]; exact h
    have dcp6 := dcp5.keep (k5 (putF "_table" (.ref Dt_) [("constructors", .ref cp)])) ho5
    have hr6 := seqT_keep hr5 (k5 (putF "_table" (.ref Dt_) [("constructors", .ref cp)])) ho5
    have ho6 : (upd H5 o (.ins C dx (putF "_table" (.ref Dt_) [("constructors", .ref cp)]))) o = some (.ins C dx [("constructors", .ref cp), ("_table", .ref Dt_)]) := upd_same
    have K6 := K5.trans (k5 (putF "_table" (.ref Dt_) [("constructors", .ref cp)]))
    have t6 := k5 (putF "_table" (.ref Dt_) [("constructors", .ref cp)]) _ _ nT hd5
    have hk6 : ∀ r ∈ cs, ∃ v, valV kvs (.inr r.nm) = some v ∧ Dt K (upd H5 o (.ins C dx (putF "_table" (.ref Dt_) [("constructors", .ref cp)]))) v r.d := fun r hr => let ⟨v, e1, e2⟩ := hk5 r hr; ⟨v, e1, e2.keep (k5 _) ho5⟩
    generalize upd H5 o (.ins C dx (putF "_table" (.ref Dt_) [("constructors", .ref cp)])) = H6 at *
    refine ⟨_, rfl, o, C, dx, _, _, rfl, ho6, X.cl, X.nT, rfl, _, rfl, _, r, rfl, hr6, fun H7 s7 => ?_⟩
    have hr7 := Same.seqT s7 hr6
    refine ⟨_, rfl, r, rfl, ⟨_, hr7⟩, fun D7 hD7 => lcS (K := K) (walk_tup (xs := [])) hD7 (by show 0 ≤ _; decide) (fun ds => True) trivial (fun H' s => Same.seqT s hr7) ?_ ?_⟩
    · rintro i x H8 H8 ds R hi s8 ⟨rfl, gx⟩ _ _ _
      simp at gx
    rintro H8 vs8 ds8 s8 hvs8 da8 _ _
    refine ⟨D7, _, rfl, .inl ⟨SqL.of hvs8, fun rp hrp => ?_⟩⟩
    have s9 := (s7.trans s8).trans (same_new (o := .tup vs8) hrp)
    have ho9 := s9 _ _ ho6
    have dcp9 := dcp6.same s9
    have K9 := K6.trans (Keep.ofSame s9)
    generalize upd H8 rp (HO.tup vs8) = H9 at *
    refine ⟨_, rfl, o, C, dx, _, rfl, ho9, X.cl, X.nR, (by show 2 < 1000; decide), ?_⟩
    have k9 : ∀ fs, Keep o H9 (upd H9 o (.ins C dx fs)) := fun fs b u hb h => by rw [upd_ne hb]; exact h
    exact q _ (K9.trans (k9 _)) ⟨dx, cp, Dt_, .ref rp, kvs, upd_same, dcp9.keep (k9 _) ho9, k9 _ _ _ nT (s9 _ _ t6), fun r hr => let ⟨v, e1, e2⟩ := hk6 r hr; ⟨v, e1, (e2.same s9).keep (k9 _) ho9⟩⟩
end
end PK
namespace PK
open PySem L2
/-! the law's filling -/
def noN (t : Tm) : Prop := t.kids.length ≤ 1000 ∧ ∀ f ts, t ≠ .form f ts
def noF : Tm → Prop := Al noN
theorem Al.imp {p q : Tm → Prop} (h : ∀ t, p t → q t) {t : Tm} (a : Al p t) : Al q t := by
  induction t using Tm.ind with
  | h t ih => exact .mk (h t a.at_) fun k hk => ih k hk (a.kid hk)
/-- the dict tells what the row tells, and no more of words -/
def BindE (K : PySem.W.Frag) (H : Hp) (kvs : List (Key × V)) (tab : Tab) : Prop := ∀ s, (∀ t, lookA tab s = some t → ∃ v, valV kvs (.inr s) = some v ∧ Dt K H v t.d) ∧ (lookA tab s = none → valV kvs (.inr s) = none)
theorem BindE.mono {K : PySem.W.Frag} {H H' : Hp} {kvs : List (Key × V)} {tab : Tab} (h : BindE K H kvs tab) (k : ∀ v d, Dt K H v d → Dt K H' v d) : BindE K H' kvs tab := fun s =>
  ⟨fun t e => let ⟨v, e1, e2⟩ := (h s).1 t e; ⟨v, e1, k _ _ e2⟩, (h s).2⟩
theorem BindE.put {K : PySem.W.Frag} {H : Hp} {kvs : List (Key × V)} {tab : Tab} (h : BindE K H kvs tab) {w : Str} {v : V} {t : Tm} (dv : Dt K H v t.d) : BindE K H (putK kvs (.inr w) v) (tab ++ [(w, t)]) := fun s => by
  rw [lookA_snoc, valV_put]
  by_cases e : w = s
  · subst e
    rw [if_pos rfl, if_pos rfl]
    exact ⟨fun t' et => ⟨v, rfl, by cases et; exact dv⟩, fun z => nomatch z⟩
  · rw [if_neg e, if_neg (fun z => e (Sum.inr.inj z).symm)]
    exact h s
theorem BindE.nil {K : PySem.W.Frag} {H : Hp} : BindE K H [] [] := fun s => ⟨fun t e => (by cases e), fun _ => rfl⟩
theorem zip_ent (es : List (Str × Tm)) (f : Tm → Tm) : List.zipWith (fun (e : Str × Tm) (k : Tm) => (e.1, k)) es ((es.map Prod.snd).map f) = es.map fun e => (e.1, f e.2) := by
  induction es with
  | nil => rfl
  | cons e es ih => rw [List.map_cons, List.map_cons, List.zipWith_cons_cons, ih, List.map_cons]
def spFil (K : PySem.W.Frag) (n : Nat) : Sp := fun vs H Q _ => ∃ (v : V) (tb : Addr) (t : Tm) (kvs : List (Key × V)) (tab : Tab), vs = [v, .ref tb] ∧ Dt K H v t.d ∧ H tb = some (.dK kvs) ∧ BindE K H kvs tab ∧ noF t ∧ t.ht ≤ n ∧
  ∀ (H' : Hp) (v' : V), Same H H' → Dt K H' v' (t.fill tab).d → Q v' H'
section
variable {P : Program} {w : World} {K : PySem.W.Frag} {mg : Str → Option Value} {base : Heap}
abbrev s_law_filled : Stmt := topS 113
theorem sc_law_filled : FnScope ["term", "table", "part", "entry"] ["term", "table"] (defScope s_law_filled) := ⟨rfl, rfl, rfl, by decide +kernel, rfl, by decide +kernel, by decide +kernel⟩
-- slots: 0:term 1:table(cell) 2:part(comp) 3:entry(comp)
theorem ok_fil {n : Nat} {f : Addr} {fd : FuncData} (F : Fun K "_law_filled" "_law_filled" s_law_filled f fd) (T : Txt K mg) (C_law_filled : C8.Cal P w K mg base n "_law_filled" (spFil K n) []) : FnOk P w K mg base CX0 (n + 1) f fd ["term", "table"] (spFil K (n + 1)) := by
  refine F.ok sc_law_filled (fun vs H Q E h => ?_) (fun cdv A outer s H vs Q E hr h => ?_)
  · obtain ⟨_, _, _, _, _, rfl, _⟩ := h
    rfl
  obtain ⟨v, tb, t, kvs, tab, rfl, hv, htb, hb, nf, hh, q⟩ := h
  refine ⟨_, (pss_cons (ps_if (pt_cmpR op_eq (pe_ix ix_tup (pv 0) pe_int (fun _ _ => rfl)) pe_str (nomark _)) (pss_one (ps_ret (pe_dget2 (hu_of hr) (pv 1) (pe_ix ix_tup (pv 0) pe_int (fun _ _ => rfl)) (pv 0) ⟨by rfl, by rfl, by rfl, by rfl⟩))) pss_nil)
    (pss_cons (ps_if (pt_cmpR op_eq (pe_ix ix_tup (pv 0) pe_int (fun _ _ => rfl)) pe_str (nomark _)) (pss_one (ps_ret (pe_tup (pa_cons pe_str (pa_cons (pe_ix ix_tup (pv 0) pe_int (fun _ _ => rfl)) (pa_cons (pe_callTy call_tuple_of (by rfl) T.z_tuple (by decide +kernel) (pa_cons (pe_lc (own := [("part", 2)]) (g := (gName 2)) (tt := tYes) (by rfl) sc_law_filled.nd (pi_tup (pe_ix ix_tup (pv 0) pe_int (fun _ _ => rfl))) (blkOk_by (N := ["term", "table", "part", "entry"]) (sc := defScope s_law_filled) (by decide +kernel)) (fun _ _ _ _ _ => (pg_name (i := 2) sc_law_filled.nd rfl (Or.inl rfl))) (fun _ _ _ _ _ => pts_nil) (fun _ _ _ _ _ => (C8.pe_c C_law_filled hr (by omega) rfl (pa_cons (pv 2) (pa_cons (pv 1) pa_nil))))) pa_nil)) pa_nil)))))) pss_nil)
    (pss_cons (ps_if (pt_cmpR op_eq (pe_ix ix_tup (pv 0) pe_int (fun _ _ => rfl)) pe_str (nomark _)) (pss_one (ps_ret (pe_tup (pa_cons pe_str (pa_cons (pe_callTy call_tuple_of (by rfl) T.z_tuple (by decide +kernel) (pa_cons (pe_lc (own := [("entry", 3)]) (g := (gName 3)) (tt := tYes) (by rfl) sc_law_filled.nd (pi_tup (pe_ix ix_tup (pv 0) pe_int (fun _ _ => rfl))) (blkOk_by (N := ["term", "table", "part", "entry"]) (sc := defScope s_law_filled) (by decide +kernel)) (fun _ _ _ _ _ => (pg_name (i := 3) sc_law_filled.nd rfl (Or.inl rfl))) (fun _ _ _ _ _ => pts_nil) (fun _ _ _ _ _ => (pe_tup (pa_cons (pe_ix (r := rIxT K) ix_tup (pv 3) pe_int (fun _ _ => rfl)) (pa_cons (C8.pe_c C_law_filled hr (by omega) rfl (pa_cons (pe_ix (r := rIxT K) ix_tup (pv 3) pe_int (fun _ _ => rfl)) (pa_cons (pv 1) pa_nil))) pa_nil))))) pa_nil)) pa_nil))))) pss_nil)
    (pss_one (ps_ret (pv 0)))))), ?_⟩
  rw [Tm.fill_eq] at q
  have hv0 := hv
  cases t with
  | var s =>
    unfold Tm.d at hv
    obtain ⟨a, x, y, rfl, hs, h1, h2⟩ := Dt.t2 hv
    obtain rfl := h1.s
    obtain rfl := h2.s
    refine vTx rfl hs rfl ⟨rfl, _, rfl, sT rfl ?_⟩
    refine ⟨_, rfl, tb, rfl, .inl ⟨kvs, .inl htb⟩, vTx rfl hs rfl ⟨_, rfl, valV kvs (.inr s), DGet.k (k := Sum.inr s) htb, ?_⟩⟩
    cases e : lookA tab s with
    | some t' =>
      obtain ⟨v', e1, e2⟩ := (hb s).1 t' e
      rw [e1]
      refine q H v' (Same.refl H) ?_
      show Dt K H v' ((lookA tab s).getD (.var s)).d
      rw [e]
      exact e2
    | none =>
      rw [(hb s).2 e]
      refine q H _ (Same.refl H) ?_
      show Dt K H _ ((lookA tab s).getD (.var s)).d
      rw [e]
      exact hv0
  | node c ts =>
    unfold Tm.d at hv
    obtain ⟨a, x, y, z, rfl, hs, h1, h2, h3⟩ := Dt.t3 hv
    obtain rfl := h1.s
    obtain rfl := h2.s
    obtain ⟨b, ys, rfl, hb2, hys⟩ := Dt.tn h3
    rw [Tm.ds_map] at hys
    have ly : ys.length = ts.length := by rw [hys.lenD, List.length_map]
    have lk : ts.length ≤ 1000 := nf.at_.1
    refine vTx rfl hs rfl ⟨rfl, _, rfl, sF (by decide +kernel) (vTx rfl hs rfl ⟨rfl, _, rfl, sT rfl (vTx rfl hs rfl ?_)⟩)⟩
    refine vTx rfl hs rfl ⟨b, rfl, ⟨_, hb2⟩, fun D hD => lcS (K := K) (walk_tup (xs := ys)) hD (by omega) (fun ds => ds = ((ts.take ds.length).map (Tm.fill tab)).map Tm.d) rfl (fun H' s => Same.seqT s hb2) ?_ ?_⟩
    · rintro i x H1 H1 ds R hi s1 ⟨rfl, gx⟩ jd len r
      obtain ⟨d, gd, dx⟩ := DtAll.getX hys gx
      rw [List.getElem?_map] at gd
      cases e0 : ts[i]? with
      | none => rw [e0] at gd; cases gd
      | some k =>
      rw [e0] at gd
      cases gd
      have hk : k ∈ (Tm.node c ts).kids := List.mem_of_getElem? e0
      have := Tm.ht_kid hk
      refine ⟨rfl, _, rfl, _, rfl, x, tb, k, kvs, tab, rfl, dx.same s1, s1 _ _ htb, hb.mono fun _ _ z => z.same s1, nf.kid hk, by omega, fun H2 v' s2 dv => r (k.fill tab).d v' H2 s2 dv ?_⟩
      rw [List.length_append, len, show i + [(k.fill tab).d].length = i + 1 from rfl, List.take_add_one, e0, List.map_append, List.map_append]
      rw [len] at jd
      rw [← jd]; rfl
    rintro H1 ws ds s1 hws da len jd
    rw [len, ly, List.take_length] at jd
    rw [jd] at da
    refine ⟨D, _, rfl, .inl ⟨SqL.of hws, fun p1 hp1 => ⟨small (by show 3 ≤ _; decide), fun p2 hp2 => ?_⟩⟩⟩
    refine q _ _ ((s1.trans (same_new hp1)).trans (same_new hp2)) ?_
    show Dt K _ _ (Tm.node c (ts.map (Tm.fill tab))).d
    unfold Tm.d
    rw [Tm.ds_map]
    exact Dt.mk3 hp2 (.str _) (.str _) (.tup (SqT.of upd_same) (da.same (same_new hp1)))
  | map es =>
    unfold Tm.d at hv
    obtain ⟨a, x, y, rfl, hs, h1, h2⟩ := Dt.t2 hv
    obtain rfl := h1.s
    obtain ⟨b, ys, rfl, hb2, hys⟩ := Dt.tn h2
    rw [Tm.es_map] at hys
    have ly : ys.length = es.length := by rw [hys.lenD, List.length_map]
    have lk : es.length ≤ 1000 := by have := nf.at_.1; rw [show (Tm.map es).kids = es.map Prod.snd from rfl, List.length_map] at this; exact this
    refine vTx rfl hs rfl ⟨rfl, _, rfl, sF (by decide +kernel) (vTx rfl hs rfl ⟨rfl, _, rfl, sF (by decide +kernel) (vTx rfl hs rfl ⟨rfl, _, rfl, sT rfl ?_⟩)⟩)⟩
    refine vTx rfl hs rfl ⟨b, rfl, ⟨_, hb2⟩, fun D hD => lcS (K := K) (walk_tup (xs := ys)) hD (by omega) (fun ds => ds = ((es.take ds.length).map fun e => (e.1, e.2.fill tab)).map Tm.ent) rfl (fun H' s => Same.seqT s hb2) ?_ ?_⟩
    · rintro i x H1 H1 ds R hi s1 ⟨rfl, gx⟩ jd len r
      obtain ⟨d, gd, dx⟩ := DtAll.getX hys gx
      rw [List.getElem?_map] at gd
      cases e0 : es[i]? with
      | none => rw [e0] at gd; cases gd
      | some k =>
      rw [e0] at gd
      cases gd
      have hk : k.2 ∈ (Tm.map es).kids := List.mem_map.mpr ⟨k, List.mem_of_getElem? e0, rfl⟩
      have := Tm.ht_kid hk
      unfold Tm.ent at dx
      obtain ⟨a1, u1, w1, rfl, hs1, j1, j2⟩ := Dt.t2 (dx.same s1)
      obtain rfl := j1.s
      refine ⟨rfl, vTx rfl hs1 rfl (vTx rfl hs1 rfl ⟨_, rfl, w1, tb, k.2, kvs, tab, rfl, j2, s1 _ _ htb, hb.mono fun _ _ z => z.same s1, nf.kid hk, by omega, fun H2 v' s2 dv => ⟨small (by show 2 ≤ _; decide), fun p hp => r (Tm.ent (k.1, k.2.fill tab)) _ _ (s2.trans (same_new hp)) ?_ ?_⟩⟩)⟩
      · unfold Tm.ent
        exact Dt.mk2 hp (.str _) dv
      · rw [List.length_append, len, show i + [Tm.ent (k.1, k.2.fill tab)].length = i + 1 from rfl, List.take_add_one, e0, List.map_append, List.map_append]
        rw [len] at jd
        rw [← jd]; rfl
    rintro H1 ws ds s1 hws da len jd
    rw [len, ly, List.take_length] at jd
    rw [jd] at da
    refine ⟨D, _, rfl, .inl ⟨SqL.of hws, fun p1 hp1 => ⟨small (by show 2 ≤ _; decide), fun p2 hp2 => ?_⟩⟩⟩
    refine q _ _ ((s1.trans (same_new hp1)).trans (same_new hp2)) ?_
    show Dt K _ _ (Tm.map (List.zipWith (fun e k => (e.1, k)) es ((es.map Prod.snd).map (Tm.fill tab)))).d
    have ez := zip_ent es (Tm.fill tab)
    rw [ez]
    unfold Tm.d
    rw [Tm.es_map]
    exact Dt.mk2 hp2 (.str _) (.tup (SqT.of upd_same) (da.same (same_new hp1)))
  | form g ts => exact absurd rfl (nf.at_.2 g ts)
  | int m =>
    unfold Tm.d at hv
    obtain ⟨a, x, y, rfl, hs, h1, h2⟩ := Dt.t2 hv
    obtain rfl := h1.s
    exact vTx rfl hs rfl ⟨rfl, _, rfl, sF (by decide +kernel) (vTx rfl hs rfl ⟨rfl, _, rfl, sF (by decide +kernel) (vTx rfl hs rfl ⟨rfl, _, rfl, sF (by decide +kernel) ⟨_, rfl, q H _ (Same.refl H) hv0⟩⟩)⟩)⟩
  | name m =>
    unfold Tm.d at hv
    obtain ⟨a, x, y, rfl, hs, h1, h2⟩ := Dt.t2 hv
    obtain rfl := h1.s
    exact vTx rfl hs rfl ⟨rfl, _, rfl, sF (by decide +kernel) (vTx rfl hs rfl ⟨rfl, _, rfl, sF (by decide +kernel) (vTx rfl hs rfl ⟨rfl, _, rfl, sF (by decide +kernel) ⟨_, rfl, q H _ (Same.refl H) hv0⟩⟩)⟩)⟩
  | addr m =>
    unfold Tm.d at hv
    obtain ⟨a, x, y, rfl, hs, h1, h2⟩ := Dt.t2 hv
    obtain rfl := h1.s
    exact vTx rfl hs rfl ⟨rfl, _, rfl, sF (by decide +kernel) (vTx rfl hs rfl ⟨rfl, _, rfl, sF (by decide +kernel) (vTx rfl hs rfl ⟨rfl, _, rfl, sF (by decide +kernel) ⟨_, rfl, q H _ (Same.refl H) hv0⟩⟩)⟩)⟩
end
end PK
namespace PK
open PySem L2
/-! the law's translation -/
theorem tpl_noF {ps : List Str} {t : Tm} (h : tplOk ps t) : noF t := Al.imp (fun t h => ⟨by have := h.1; omega, h.2.2.1⟩) h
def spTl (K : PySem.W.Frag) (n : Nat) : Sp := fun vs H Q _ => ∃ (u v : V) (R : List Rw) (t : Tm), vs = [u, v] ∧ Dt K H u (.tuple (R.map Rw.d)) ∧ Dt K H v t.d ∧ okR R ∧ (∀ r ∈ R, rwOk r) ∧ okT R t ∧ noF t ∧ t.ht ≤ n ∧
  ∀ (H' : Hp) (v' : V), Same H H' → Dt K H' v' (t.trans R).d → Q v' H'
section
variable {P : Program} {w : World} {K : PySem.W.Frag} {mg : Str → Option Value} {base : Heap}
abbrev s_law_translated : Stmt := topS 114
theorem sc_law_translated : FnScope ["rows", "term", "row", "table", "k", "entry"] ["rows", "term"] (defScope s_law_translated) := ⟨rfl, rfl, rfl, by decide +kernel, rfl, by decide +kernel, by decide +kernel⟩
-- slots: 0:rows(cell) 1:term 2:row 3:table 4:k 5:entry(comp)
theorem ok_tl {n : Nat} {f : Addr} {fd : FuncData} (F : Fun K "_law_translated" "_law_translated" s_law_translated f fd) (T : Txt K mg) (C_law_filled : C8.Cal P w K mg base 13 "_law_filled" (spFil K 13) []) (C_law_translated : C8.Cal P w K mg base (n + 13) "_law_translated" (spTl K n) []) :
    FnOk P w K mg base CX0 (n + 14) f fd ["rows", "term"] (spTl K (n + 1)) := by
  refine F.ok sc_law_translated (fun vs H Q E h => ?_) (fun cdv A outer s H vs Q E hr h => ?_)
  · obtain ⟨_, _, _, _, rfl, _⟩ := h
    rfl
  obtain ⟨u, v, R, t, rfl, hu, hv, oR, rok, oT, nf, hh, q⟩ := h
  refine ⟨_, (pss_cons (ps_if (pt_cmpR op_eq (pe_ix ix_tup (pv 1) pe_int (fun _ _ => rfl)) pe_str (nomark _)) (pss_one (ps_ret (pe_tup (pa_cons pe_str (pa_cons (pe_callTy call_tuple_of (by rfl) T.z_tuple (by decide +kernel) (pa_cons (pe_lc (own := [("entry", 5)]) (g := (gName 5)) (tt := tYes) (by rfl) sc_law_translated.nd (pi_tup (pe_ix ix_tup (pv 1) pe_int (fun _ _ => rfl))) (blkOk_by (N := ["rows", "term", "row", "table", "k", "entry"]) (sc := defScope s_law_translated) (by decide +kernel)) (fun _ _ _ _ _ => (pg_name (i := 5) sc_law_translated.nd rfl (Or.inl rfl))) (fun _ _ _ _ _ => pts_nil) (fun _ _ _ _ _ => (pe_tup (pa_cons (pe_ix (r := rIxT K) ix_tup (pv 5) pe_int (fun _ _ => rfl)) (pa_cons (C8.pe_c C_law_translated hr (by omega) rfl (pa_cons (pv 0) (pa_cons (pe_ix (r := rIxT K) ix_tup (pv 5) pe_int (fun _ _ => rfl)) pa_nil))) pa_nil))))) pa_nil)) pa_nil))))) pss_nil)
    (pss_cons (ps_if (pt_cmpR op_ne (pe_ix ix_tup (pv 1) pe_int (fun _ _ => rfl)) pe_str (nomark _)) (pss_one (ps_ret (pv 1))) pss_nil)
    (pss_cons (ps_for PassesOwn.never rfl (pi_tup (pv 0)) (pg_name (i := 2) sc_law_translated.nd rfl (Or.inl rfl)) (pss_one (ps_if (pt_cmpR op_eq (pe_ix ix_tup (pv 2) pe_int (fun _ _ => rfl)) (pe_ix ix_tup (pv 1) pe_int (fun _ _ => rfl)) (nomark _)) (pss_cons (ps_set (i := 3) sc_law_translated.nd rfl (Or.inl rfl) pe_dnewK)
    (pss_cons (ps_for PassesOwn.never rfl (pi_range1 (by rfl) T.z_range (pa_cons (pe_callB call_len_seq (by rfl) T.z_len (by decide +kernel) (pa_cons (pe_ix ix_tup (pv 2) pe_int (fun _ _ => rfl)) pa_nil)) pa_nil)) (pg_name (i := 4) sc_law_translated.nd rfl (Or.inl rfl)) (pss_one (ps_dput (hu_of hr) (pv 3) (pe_ix ix_tup (pe_ix ix_tup (pv 2) pe_int (fun _ _ => rfl)) (pv 4) (fun _ _ => rfl)) (C8.pe_c C_law_translated hr (by omega) rfl (pa_cons (pv 0) (pa_cons (pe_ix ix_tup (pe_ix ix_tup (pv 1) pe_int (fun _ _ => rfl)) (pv 4) (fun _ _ => rfl)) pa_nil))) rfl)))
    (pss_one (ps_ret (C8.pe_c C_law_filled hr (by omega) rfl (pa_cons (pe_ix ix_tup (pv 2) pe_int (fun _ _ => rfl)) (pa_cons (pv 3) pa_nil))))))) pss_nil)))
    (pss_one (ps_ret pe_non))))), ?_⟩
  rw [Tm.trans_eq] at q
  have hv0 := hv
  cases t with
  | node c ts =>
    unfold Tm.d at hv
    obtain ⟨a, x, y, z, rfl, hs, h1, h2, h3⟩ := Dt.t3 hv
    obtain rfl := h1.s
    obtain rfl := h2.s
    obtain ⟨b, ys, rfl, hb2, hys⟩ := Dt.tn h3
    rw [Tm.ds_map] at hys
    have ly : ys.length = ts.length := by rw [hys.lenD, List.length_map]
    obtain ⟨r0, hr0, en0, er0⟩ := oT.at_.2 c ts rfl
    obtain ⟨j, hj, ej⟩ := List.getElem_of_mem hr0
    obtain ⟨ra, rv, rfl, hra, dra⟩ := Dt.tn hu
    have lrv : rv.length = R.length := by rw [dra.lenD, List.length_map]
    refine vTx rfl hs rfl ⟨rfl, _, rfl, sF (by decide +kernel) (vTx rfl hs rfl ⟨rfl, _, rfl, nF rfl ?_⟩)⟩
    refine ⟨_, rfl, ra, rfl, ⟨_, hra⟩, for_it (walk_tup (K := K) (xs := rv)) (fun i σ H' => ∃ (o2 : Option V), σ = [some (.ref ra), some (.ref a), o2, none, none, none] ∧ Same H H' ∧ i ≤ j) ?_ ?_ ?_ ?_⟩
    · exact ⟨_, rfl, Same.refl H, Nat.zero_le _⟩
    · rintro i σ H' _ ⟨_, _, s, _⟩
      exact Same.seqT s hra
    · rintro i x σ H' H' hi ⟨o2, rfl, s, hij⟩ ⟨rfl, gx⟩
      obtain ⟨d, gd, dx⟩ := DtAll.getX dra gx
      have hiR : i < R.length := by omega
      rw [List.getElem?_map, List.getElem?_eq_getElem hiR] at gd
      cases gd
      have dx' := dx.same s
      unfold Rw.d at dx'
      obtain ⟨a1, x1, y1, z1, rfl, hs1, k1, k2, k3⟩ := Dt.t3 dx'
      obtain rfl := k1.s
      obtain ⟨a2, ps', rfl, hs2, dps⟩ := Dt.tn k2
      obtain rfl := dps.strsE
      have hs' := Same.seqT s hs
      have hRi : R[i] ∈ R := List.getElem_mem hiR
      refine vTx rfl hs1 rfl (vTx rfl hs' rfl ⟨rfl, _, rfl, ?_⟩)
      by_cases e : R[i].nm = c
      · have er : rowOf R c = some R[i] := by rw [← e]; exact rowOf_mem oR.nd hRi
        have e0 : r0 = R[i] := by
          have := rowOf_mem oR.nd hr0
          rw [en0, er] at this
          exact (Option.some.inj this).symm
        rw [e0] at er0
        have lps := oR.ar _ hRi
        have lt6 : (ts.map (Tm.trans R)).length = ts.length := List.length_map ..
        have lz : ((R[i].ps.zip (ts.map (Tm.trans R))).length) = R[i].ps.length := by rw [List.length_zip, lt6]; omega
        refine sT e (fun tb htb => ?_)
        have s2 := same_new (o := .dK []) htb
        refine vTx rfl (Same.seqT s2 hs1) rfl ⟨a2, _, rfl, .inr (Same.seqT s2 hs2), ((R[i].ps.map V.str).length : Nat), rfl, by omega, by rw [List.length_map]; omega, for_range (lo := 0) (n := (((R[i].ps.map V.str).length : Nat) : Int).toNat) (fun k σ H2 => ∃ (kvs : List (Key × V)) (o4 : Option V), σ = [some (.ref ra), some (.ref a), some (.ref a1), some (.ref tb), o4, none] ∧ Same H' H2 ∧ H2 tb = some (.dK kvs) ∧ kvs.length ≤ k ∧ BindE K H2 kvs ((R[i].ps.zip (ts.map (Tm.trans R))).take k)) ?_ ?_ ?_⟩
        · exact ⟨[], _, rfl, s2, upd_same, Nat.zero_le _, BindE.nil⟩
        · rintro k σ H2 hk ⟨kvs, o4, rfl, s3, h3, lk, hb⟩
          rw [List.length_map] at hk
          have hkp : k < R[i].ps.length := by omega
          have hkt : k < ts.length := by omega
          have s13 := s.trans s3
          obtain ⟨yk, gy, dy⟩ := hys.getD (i := k) (d := ts[k].d) (by rw [List.getElem?_map, List.getElem?_eq_getElem hkt]; rfl)
          have ek : (0 : Int) + (k : Int) = (k : Nat) := Int.zero_add _
          have hkk : ts[k] ∈ (Tm.node c ts).kids := List.getElem_mem hkt
          have := Tm.ht_kid hkk
          refine ⟨_, rfl, vTx rfl (Same.seqT s13 hs) rfl ⟨_, rfl, b, ys, _, yk, rfl, rfl, Same.seqT s13 hb2, by rw [ek]; exact atI_nat gy, _, _, R, ts[k], rfl, hu.same s13, dy.same s13, oR, rok, oT.kid hkk, nf.kid hkk, by omega, fun H3 v' s4 dv => ?_⟩⟩
          have s34 := s3.trans s4
          have h4 := s4 _ _ h3
          refine ⟨_, rfl, vTx rfl (Same.seqT s34 hs1) rfl ⟨_, rfl, a2, _, _, .str R[i].ps[k], rfl, rfl, Same.seqT s34 hs2, by rw [ek]; exact atI_nat (by rw [List.getElem?_map, List.getElem?_eq_getElem hkp]; rfl), tb, _, rfl, DPut.k (k := Sum.inr R[i].ps[k]) h4 (smallL (by omega)), ?_⟩⟩
          have lz' := length_putK kvs (Sum.inr R[i].ps[k]) v'
          refine ⟨_, _, rfl, Same.upd s34 htb, upd_same, by omega, ?_⟩
          have ez : (R[i].ps.zip (ts.map (Tm.trans R))).take (k + 1) = (R[i].ps.zip (ts.map (Tm.trans R))).take k ++ [(R[i].ps[k], ts[k].trans R)] := by
            rw [List.take_add_one]
            have : (R[i].ps.zip (ts.map (Tm.trans R)))[k]? = some (R[i].ps[k], ts[k].trans R) := by
              rw [List.getElem?_eq_getElem (by rw [lz]; exact hkp), List.getElem_zip, List.getElem_map]
            rw [this]; rfl
          rw [ez]
          refine ((hb.mono fun _ _ z => z.same s4).put dv).mono fun v d z => Dt.mono (fun _ _ y => seqT_updK y h4) _ _ z
        · rintro σ H2 ⟨kvs, o4, rfl, s3, h3, lk, hb⟩
          rw [show (((R[i].ps.map V.str).length : Nat) : Int).toNat = (R[i].ps.zip (ts.map (Tm.trans R))).length by rw [lz, List.length_map]; omega, List.take_length] at hb
          obtain ⟨tok, tht, _, _⟩ := rok _ hRi
          refine vTx rfl (Same.seqT s3 hs1) rfl ⟨_, rfl, z1, tb, R[i].t, kvs, _, rfl, k3.same s3, h3, hb, tpl_noF tok, by omega, fun H3 v' s4 dv => q H3 v' ((s.trans s3).trans s4) ?_⟩
          unfold Tm.trK
          dsimp only
          rw [er]
          exact dv
      · refine sF e ⟨_, rfl, s, ?_⟩
        rcases Nat.lt_or_ge i j with h | h
        · exact h
        · have : i = j := by omega
          subst this
          rw [ej] at e
          exact absurd en0 e
    · rintro σ H' ⟨o2, rfl, s, hij⟩
      omega
  | map es =>
    unfold Tm.d at hv
    obtain ⟨a, x, y, rfl, hs, h1, h2⟩ := Dt.t2 hv
    obtain rfl := h1.s
    obtain ⟨b, ys, rfl, hb2, hys⟩ := Dt.tn h2
    rw [Tm.es_map] at hys
    have ly : ys.length = es.length := by rw [hys.lenD, List.length_map]
    have lk : es.length ≤ 1000 := by have := nf.at_.1; rw [show (Tm.map es).kids = es.map Prod.snd from rfl, List.length_map] at this; exact this
    refine vTx rfl hs rfl ⟨rfl, _, rfl, sT rfl ?_⟩
    refine vTx rfl hs rfl ⟨b, rfl, ⟨_, hb2⟩, fun D hD => lcS (K := K) (walk_tup (xs := ys)) hD (by omega) (fun ds => ds = ((es.take ds.length).map fun e => (e.1, e.2.trans R)).map Tm.ent) rfl (fun H' s => Same.seqT s hb2) ?_ ?_⟩
    · rintro i x H1 H1 ds R' hi s1 ⟨rfl, gx⟩ jd len r
      obtain ⟨d, gd, dx⟩ := DtAll.getX hys gx
      rw [List.getElem?_map] at gd
      cases e0 : es[i]? with
      | none => rw [e0] at gd; cases gd
      | some k =>
      rw [e0] at gd
      cases gd
      have hk : k.2 ∈ (Tm.map es).kids := List.mem_map.mpr ⟨k, List.mem_of_getElem? e0, rfl⟩
      have := Tm.ht_kid hk
      unfold Tm.ent at dx
      obtain ⟨a1, u1, w1, rfl, hs1, j1, j2⟩ := Dt.t2 (dx.same s1)
      obtain rfl := j1.s
      refine ⟨rfl, vTx rfl hs1 rfl ⟨_, rfl, vTx rfl hs1 rfl ⟨u, w1, R, k.2, rfl, hu.same s1, j2, oR, rok, oT.kid hk, nf.kid hk, by omega, fun H2 v' s2 dv => ⟨small (by show 2 ≤ _; decide), fun p hp => r (Tm.ent (k.1, k.2.trans R)) _ _ (s2.trans (same_new hp)) ?_ ?_⟩⟩⟩⟩
      · unfold Tm.ent
        exact Dt.mk2 hp (.str _) dv
      · rw [List.length_append, len, show i + [Tm.ent (k.1, k.2.trans R)].length = i + 1 from rfl, List.take_add_one, e0, List.map_append, List.map_append]
        rw [len] at jd
        rw [← jd]; rfl
    rintro H1 ws ds s1 hws da len jd
    rw [len, ly, List.take_length] at jd
    rw [jd] at da
    refine ⟨D, _, rfl, .inl ⟨SqL.of hws, fun p1 hp1 => ⟨small (by show 2 ≤ _; decide), fun p2 hp2 => ?_⟩⟩⟩
    refine q _ _ ((s1.trans (same_new hp1)).trans (same_new hp2)) ?_
    show Dt K _ _ (Tm.map (List.zipWith (fun e k => (e.1, k)) es ((es.map Prod.snd).map (Tm.trans R)))).d
    rw [zip_ent es (Tm.trans R)]
    unfold Tm.d
    rw [Tm.es_map]
    exact Dt.mk2 hp2 (.str _) (.tup (SqT.of upd_same) (da.same (same_new hp1)))
  | form g ts => exact absurd rfl (nf.at_.2 g ts)
  | int m =>
    unfold Tm.d at hv
    obtain ⟨a, x, y, rfl, hs, h1, h2⟩ := Dt.t2 hv
    obtain rfl := h1.s
    exact vTx rfl hs rfl ⟨rfl, _, rfl, sF (by decide +kernel) (vTx rfl hs rfl ⟨rfl, _, rfl, nT (by decide +kernel) ⟨_, rfl, q H _ (Same.refl H) hv0⟩⟩)⟩
  | name m =>
    unfold Tm.d at hv
    obtain ⟨a, x, y, rfl, hs, h1, h2⟩ := Dt.t2 hv
    obtain rfl := h1.s
    exact vTx rfl hs rfl ⟨rfl, _, rfl, sF (by decide +kernel) (vTx rfl hs rfl ⟨rfl, _, rfl, nT (by decide +kernel) ⟨_, rfl, q H _ (Same.refl H) hv0⟩⟩)⟩
  | addr m =>
    unfold Tm.d at hv
    obtain ⟨a, x, y, rfl, hs, h1, h2⟩ := Dt.t2 hv
    obtain rfl := h1.s
    exact vTx rfl hs rfl ⟨rfl, _, rfl, sF (by decide +kernel) (vTx rfl hs rfl ⟨rfl, _, rfl, nT (by decide +kernel) ⟨_, rfl, q H _ (Same.refl H) hv0⟩⟩)⟩
  | var m =>
    unfold Tm.d at hv
    obtain ⟨a, x, y, rfl, hs, h1, h2⟩ := Dt.t2 hv
    obtain rfl := h1.s
    exact vTx rfl hs rfl ⟨rfl, _, rfl, sF (by decide +kernel) (vTx rfl hs rfl ⟨rfl, _, rfl, nT (by decide +kernel) ⟨_, rfl, q H _ (Same.refl H) hv0⟩⟩)⟩
end
end PK
namespace PK
open PySem L2
/-! _law_same -/
section
variable {K : PySem.W.Frag} {H H' : Hp}
mutual
theorem Dp.mono (hT : ∀ a xs, SqT K H a xs → SqT K H' a xs) (hL : ∀ a xs, SqL K H a xs → SqL K H' a xs) : ∀ (d : PyData) (v : V), Dp K H v d → Dp K H' v d
  | .none, _, h => by cases h; exact .non
  | .bool _, _, h => by cases h; exact .bl _
  | .int _, _, h => by cases h; exact .int _
  | .str _, _, h => by cases h; exact .str _
  | .dict _, _, h => by cases h
  | .list ds, _, h => by
    cases h with
    | lst s a => exact .lst (hL _ _ s) (DpAll.mono hT hL ds _ a)
  | .tuple ds, _, h => by
    cases h with
    | tup s a => exact .tup (hT _ _ s) (DpAll.mono hT hL ds _ a)
theorem DpAll.mono (hT : ∀ a xs, SqT K H a xs → SqT K H' a xs) (hL : ∀ a xs, SqL K H a xs → SqL K H' a xs) : ∀ (ds : List PyData) (vs : List V), DpAll K H vs ds → DpAll K H' vs ds
  | [], _, h => by cases h; exact .nil
  | d :: ds, _, h => by
    cases h with
    | cons h1 h2 => exact .cons (Dp.mono hT hL d _ h1) (DpAll.mono hT hL ds _ h2)
end
theorem Dp.same {d : PyData} {v : V} (h : Dp K H v d) (e : Same H H') : Dp K H' v d := Dp.mono (fun _ _ q => Same.seqT e q) (fun _ _ q => e.seq q) d v h
theorem DpAll.length : ∀ {xs : List V} {ds : List PyData}, DpAll K H xs ds → xs.length = ds.length
  | _, _, .nil => rfl
  | _, _, .cons _ t => by rw [List.length_cons, List.length_cons, DpAll.length t]
theorem DpAll.get : ∀ {xs : List V} {ds : List PyData} {i : Nat} {d : PyData}, DpAll K H xs ds → ds[i]? = some d → ∃ x, xs[i]? = some x ∧ Dp K H x d
  | _, _, _, _, .nil, e => by simp at e
  | _, _, 0, _, .cons h _, e => by simp at e; subst e; exact ⟨_, rfl, h⟩
  | _, _, i + 1, _, .cons _ t, e => by
    obtain ⟨d, h1, h2⟩ := DpAll.get (i := i) t (by simpa using e)
    exact ⟨d, by simpa using h1, h2⟩
end
theorem depth_get : ∀ {ds : List PyData} {i : Nat} {d : PyData}, ds[i]? = some d → d.depth ≤ PyData.depthAll ds
  | [], _, _, e => by simp at e
  | x :: r, 0, d, e => by
    simp at e; subst e
    show _ ≤ max _ _
    exact Nat.le_max_left _ _
  | x :: r, i + 1, d, e => by
    have ih := depth_get (ds := r) (i := i) (d := d) (by simpa using e)
    show _ ≤ max _ _
    exact Nat.le_trans ih (Nat.le_max_right _ _)
mutual
/-- no list in it is long -/
def slim : PyData → Bool
  | .none | .bool _ | .int _ | .str _ => true
  | .list xs | .tuple xs => decide (xs.length ≤ 1000) && slimAll xs
  | .dict _ => false
def slimAll : List PyData → Bool
  | [] => true
  | x :: xs => slim x && slimAll xs
end
theorem slim_get : ∀ {ds : List PyData} {i : Nat} {d : PyData}, slimAll ds = true → ds[i]? = some d → slim d = true
  | [], _, _, _, e => by simp at e
  | x :: r, 0, d, h, e => by
    simp at e; subst e
    unfold slimAll at h
    exact (Bool.and_eq_true_iff.mp h).1
  | x :: r, i + 1, d, h, e => by
    unfold slimAll at h
    exact slim_get (ds := r) (i := i) (Bool.and_eq_true_iff.mp h).2 (by simpa using e)
theorem slim_seq {ds : List PyData} (h : slim (.tuple ds) = true) : ds.length ≤ 1000 ∧ slimAll ds = true := by
  unfold slim at h
  exact ⟨of_decide_eq_true (Bool.and_eq_true_iff.mp h).1, (Bool.and_eq_true_iff.mp h).2⟩
theorem slim_lst {ds : List PyData} (h : slim (.list ds) = true) : ds.length ≤ 1000 ∧ slimAll ds = true := by
  unfold slim at h
  exact ⟨of_decide_eq_true (Bool.and_eq_true_iff.mp h).1, (Bool.and_eq_true_iff.mp h).2⟩
theorem bF {b : Bool} {A B : Prop} (h : B) : if (!decide (V.bl b = V.bl b)) = true then A else B := by
  rw [decide_eq_true rfl]; exact iteF h
structure TxtS (K : PySem.W.Frag) (mg : Str → Option Value) : Prop extends Txt K mg where
  z_sum : mg "sum" = none
def spSz (K : PySem.W.Frag) (n : Nat) : Sp := fun vs H Q _ => ∃ (v : V) (t : Tm), vs = [v] ∧ Dt K H v t.d ∧ noF t ∧ t.ht ≤ n ∧ ∀ H', Same H H' → Q (.int (t.size : Nat)) H'
/-- _law_same of any two data -/
def spSame (K : PySem.W.Frag) (n : Nat) : Sp := fun vs H Q _ => ∃ (x y : V) (d e : PyData), vs = [x, y] ∧ Dp K H x d ∧ Dp K H y e ∧ e.depth < n ∧ slim e = true ∧ ∀ (b : Bool) (H' : Hp), Same H H' → (b = true ↔ d = e) → Q (.bl b) H'
theorem all_eq : ∀ {ds es : List PyData} {bs : List Bool}, ds.length = es.length → bs.length = es.length → (∀ (i : Nat) (d e : PyData) (b : Bool), ds[i]? = some d → es[i]? = some e → bs[i]? = some b → (b = true ↔ d = e)) → (bs.all id = true ↔ ds = es)
  | [], [], [], _, _, _ => ⟨fun _ => rfl, fun _ => rfl⟩
  | [], _ :: _, _, h, _, _ => nomatch h
  | _ :: _, [], _, h, _, _ => nomatch h
  | _, [], _ :: _, _, h, _ => nomatch h
  | _, _ :: _, [], _, h, _ => nomatch h
  | d :: ds, e :: es, b :: bs, h1, h2, h => by
    have h0 := h 0 d e b rfl rfl rfl
    have ih := all_eq (ds := ds) (es := es) (bs := bs) (by simpa using h1) (by simpa using h2) fun i d' e' b' g1 g2 g3 => h (i + 1) d' e' b' (by simpa using g1) (by simpa using g2) (by simpa using g3)
    rw [List.all_cons, Bool.and_eq_true]
    show (b = true ∧ _) ↔ _
    rw [h0, ih]
    exact ⟨fun ⟨e1, e2⟩ => by rw [e1, e2], fun z => List.cons.inj z⟩
def spCut (K : PySem.W.Frag) : Sp := fun vs H Q _ => ∃ (v : V) (m : Int) (t : Tm), vs = [v, .int m] ∧ Dt K H v t.d ∧ noF t ∧ t.ht ≤ 100 ∧ ∀ (H' : Hp) (v' : V) (t' : Tm), Same H H' → Dt K H' v' t'.d → ((t' = t ∧ (t.size : Int) ≤ m) ∨ t' = .int 1) → Q v' H'
def isI : PyData → Bool | .int _ => true | _ => false
def spInt (K : PySem.W.Frag) : Sp := fun vs H Q _ => ∃ (v : V) (d : PyData), vs = [v] ∧ Dp K H v d ∧ Q (.bl (isI d)) H
section
variable {P : Program} {w : World} {K : PySem.W.Frag} {mg : Str → Option Value} {base : Heap}
abbrev s_law_is_integer : Stmt := topS 116
theorem sc_law_is_integer : FnScope ["actual"] ["actual"] (defScope s_law_is_integer) := ⟨rfl, rfl, rfl, by decide +kernel, rfl, by decide +kernel, by decide +kernel⟩
-- slots: 0:actual
abbrev s_law_size : Stmt := topS 115
theorem sc_law_size : FnScope ["term", "many", "part", "entry"] ["term"] (defScope s_law_size) := ⟨rfl, rfl, rfl, by decide +kernel, rfl, by decide +kernel, by decide +kernel⟩
-- slots: 0:term 1:many 2:part(comp) 3:entry(comp)
abbrev s_law_same : Stmt := topS 117
theorem sc_law_same : FnScope ["actual", "due", "k"] ["actual", "due"] (defScope s_law_same) := ⟨rfl, rfl, rfl, by decide +kernel, rfl, by decide +kernel, by decide +kernel⟩
-- slots: 0:actual(cell) 1:due(cell) 2:k(comp)
abbrev s_law_cut : Stmt := topS 118
theorem sc_law_cut : FnScope ["term", "most"] ["term", "most"] (defScope s_law_cut) := ⟨rfl, rfl, rfl, by decide +kernel, rfl, by decide +kernel, by decide +kernel⟩
-- slots: 0:term 1:most
theorem ok_isint {f : Addr} {fd : FuncData} (F : Fun K "_law_is_integer" "_law_is_integer" s_law_is_integer f fd) (T : Txt K mg) : FnOk P w K mg base CX0 1 f fd ["actual"] (spInt K) := by
  refine F.ok sc_law_is_integer (fun vs H Q E h => ?_) (fun cdv A outer s H vs Q E hr h => ?_)
  · obtain ⟨_, _, rfl, _⟩ := h
    rfl
  obtain ⟨v, d, rfl, hv, q⟩ := h
  refine ⟨_, (pss_one (ps_ret (pe_and (pe_callB call_isi (by rfl) T.z_isinstance (by decide +kernel) (pa_cons (pv 0) (pa_cons (pe_bltn (v := .ty "int") (by rfl) T.z_int (by decide +kernel) rfl) pa_nil))) (pe_one (pe_not (pe_callB call_isi (by rfl) T.z_isinstance (by decide +kernel) (pa_cons (pv 0) (pa_cons (pe_bltn (v := .ty "bool") (by rfl) T.z_bool (by decide +kernel) rfl) pa_nil)))))))), ?_⟩
  cases hv with
  | int n =>
    have ty : TyX K H (.int n) (.type "int") := .base (.int n)
    exact vIsi rfl ty (b := true) (by decide +kernel) ⟨_, rfl, iteT (vIsi rfl ty (b := false) (by decide +kernel) ⟨_, rfl, q⟩)⟩
  | bl b =>
    have ty : TyX K H (.bl b) (.type "bool") := .base (.bl b)
    exact vIsi rfl ty (b := true) (by decide +kernel) ⟨_, rfl, iteT (vIsi rfl ty (b := true) (by decide +kernel) ⟨_, rfl, q⟩)⟩
  | non =>
    have ty : TyX K H .non (.type "NoneType") := .base .non
    exact vIsi rfl ty (b := false) (by decide +kernel) ⟨_, rfl, iteF q⟩
  | str x =>
    have ty : TyX K H (.str x) (.type "str") := .base (.str x)
    exact vIsi rfl ty (b := false) (by decide +kernel) ⟨_, rfl, iteF q⟩
  | tup s _ => exact vIsi rfl (ty_tup s) (b := false) (by decide +kernel) ⟨_, rfl, iteF q⟩
  | lst s _ => exact vIsi rfl (ty_lst s) (b := false) (by decide +kernel) ⟨_, rfl, iteF q⟩
theorem ok_sz {n : Nat} {f : Addr} {fd : FuncData} (F : Fun K "_law_size" "_law_size" s_law_size f fd) (T : Txt K mg) (z_sum : mg "sum" = none) (C_law_size : C8.Cal P w K mg base n "_law_size" (spSz K n) []) : FnOk P w K mg base CX0 (n + 1) f fd ["term"] (spSz K (n + 1)) := by
  refine F.ok sc_law_size (fun vs H Q E h => ?_) (fun cdv A outer s H vs Q E hr h => ?_)
  · obtain ⟨_, _, rfl, _⟩ := h
    rfl
  obtain ⟨v, t, rfl, hv, nf, hh, q⟩ := h
  have T : TxtS K mg := ⟨T, z_sum⟩
  refine ⟨_, (pss_cons (ps_set (i := 1) sc_law_size.nd rfl (Or.inl rfl) pe_int)
    (pss_cons (ps_if (pt_cmpR op_eq (pe_ix ix_tup (pv 0) pe_int (fun _ _ => rfl)) pe_str (nomark _)) (pss_one (ps_set (i := 1) sc_law_size.nd rfl (Or.inl rfl) (pe_op op_add (pv 1) (pe_callB (cr_sum (by rfl)) (by rfl) T.z_sum (by decide +kernel) (pa_cons (pe_lc (own := [("part", 2)]) (g := (gName 2)) (tt := tYes) (by rfl) sc_law_size.nd (pi_tup (pe_ix ix_tup (pv 0) pe_int (fun _ _ => rfl))) (blkOk_by (N := ["term", "many", "part", "entry"]) (sc := defScope s_law_size) (by decide +kernel)) (fun _ _ _ _ _ => (pg_name (i := 2) sc_law_size.nd rfl (Or.inl rfl))) (fun _ _ _ _ _ => pts_nil) (fun _ _ _ _ _ => (C8.pe_c C_law_size hr (by omega) rfl (pa_cons (pv 2) pa_nil)))) pa_nil))))) pss_nil)
    (pss_cons (ps_if (pt_cmpR op_eq (pe_ix ix_tup (pv 0) pe_int (fun _ _ => rfl)) pe_str (nomark _)) (pss_one (ps_set (i := 1) sc_law_size.nd rfl (Or.inl rfl) (pe_op op_add (pv 1) (pe_callB (cr_sum (by rfl)) (by rfl) T.z_sum (by decide +kernel) (pa_cons (pe_lc (own := [("entry", 3)]) (g := (gName 3)) (tt := tYes) (by rfl) sc_law_size.nd (pi_tup (pe_ix ix_tup (pv 0) pe_int (fun _ _ => rfl))) (blkOk_by (N := ["term", "many", "part", "entry"]) (sc := defScope s_law_size) (by decide +kernel)) (fun _ _ _ _ _ => (pg_name (i := 3) sc_law_size.nd rfl (Or.inl rfl))) (fun _ _ _ _ _ => pts_nil) (fun _ _ _ _ _ => (C8.pe_c C_law_size hr (by omega) rfl (pa_cons (pe_ix (r := rIxT K) ix_tup (pv 3) pe_int (fun _ _ => rfl)) pa_nil)))) pa_nil))))) pss_nil)
    (pss_one (ps_ret (pv 1)))))), ?_⟩
  have fin : ∀ (H1 : Hp) (ws : List V) (ds : List PyData) (ts : List Tm), DtAll K H1 ws ds → ds = (ts.map fun k => ((k.size : Nat) : Int)).map PyData.int → ws = (ts.map fun k => ((k.size : Nat) : Int)).map V.int := fun H1 ws ds ts da e => DtAll.intsE (K := K) (H := H1) (by rw [← e]; exact da)
  have sm : ∀ ts : List Tm, (1 : Int) + (ts.map fun k => ((k.size : Nat) : Int)).sum = ((1 + (ts.map Tm.size).sum : Nat) : Int) := fun ts => by
    induction ts with
    | nil => rfl
    | cons a r ih =>
      rw [List.map_cons, List.map_cons, List.sum_cons, List.sum_cons]
      omega
  rw [Tm.size_eq] at q
  have hv0 := hv
  cases t with
  | node c ts =>
    unfold Tm.d at hv
    obtain ⟨a, x, y, z, rfl, hs, h1, h2, h3⟩ := Dt.t3 hv
    obtain rfl := h1.s
    obtain ⟨b, ys, rfl, hb2, hys⟩ := Dt.tn h3
    rw [Tm.ds_map] at hys
    have ly : ys.length = ts.length := by rw [hys.lenD, List.length_map]
    have lk : ts.length ≤ 1000 := nf.at_.1
    refine vTx rfl hs rfl ⟨rfl, _, rfl, sT rfl ⟨_, rfl, ?_⟩⟩
    refine vTx rfl hs rfl ⟨b, rfl, ⟨_, hb2⟩, fun D hD => lcS (K := K) (walk_tup (xs := ys)) hD (by omega) (fun ds => ds = ((ts.take ds.length).map fun k => ((k.size : Nat) : Int)).map PyData.int) rfl (fun H' s => Same.seqT s hb2) ?_ ?_⟩
    · rintro i x H1 H1 ds R hi s1 ⟨rfl, gx⟩ jd len r
      obtain ⟨d, gd, dx⟩ := DtAll.getX hys gx
      rw [List.getElem?_map] at gd
      cases e0 : ts[i]? with
      | none => rw [e0] at gd; cases gd
      | some k =>
      rw [e0] at gd
      cases gd
      have hk : k ∈ (Tm.node c ts).kids := List.mem_of_getElem? e0
      have := Tm.ht_kid hk
      refine ⟨rfl, _, rfl, x, k, rfl, dx.same s1, nf.kid hk, by omega, fun H2 s2 => r (.int (k.size : Nat)) _ H2 s2 (.int _) ?_⟩
      rw [List.length_append, len, show i + [PyData.int ((k.size : Nat) : Int)].length = i + 1 from rfl, List.take_add_one, e0, List.map_append, List.map_append]
      rw [len] at jd
      rw [← jd]; rfl
    rintro H1 ws ds s1 hws da len jd
    rw [len, ly, List.take_length] at jd
    obtain rfl := fin H1 ws ds ts da jd
    refine ⟨D, _, rfl, SqL.of hws, _, _, rfl, rfl, ?_⟩
    refine vTx rfl (Same.seqT s1 hs) rfl ⟨rfl, _, rfl, sF (by decide +kernel) ⟨_, rfl, ?_⟩⟩
    have := q H1 s1
    rw [← sm] at this
    exact this
  | map es =>
    unfold Tm.d at hv
    obtain ⟨a, x, y, rfl, hs, h1, h2⟩ := Dt.t2 hv
    obtain rfl := h1.s
    obtain ⟨b, ys, rfl, hb2, hys⟩ := Dt.tn h2
    rw [Tm.es_map] at hys
    have ly : ys.length = es.length := by rw [hys.lenD, List.length_map]
    have lk : es.length ≤ 1000 := by have := nf.at_.1; rw [show (Tm.map es).kids = es.map Prod.snd from rfl, List.length_map] at this; exact this
    refine vTx rfl hs rfl ⟨rfl, _, rfl, sF (by decide +kernel) (vTx rfl hs rfl ⟨rfl, _, rfl, sT rfl ⟨_, rfl, ?_⟩⟩)⟩
    refine vTx rfl hs rfl ⟨b, rfl, ⟨_, hb2⟩, fun D hD => lcS (K := K) (walk_tup (xs := ys)) hD (by omega) (fun ds => ds = (((es.map Prod.snd).take ds.length).map fun k => ((k.size : Nat) : Int)).map PyData.int) rfl (fun H' s => Same.seqT s hb2) ?_ ?_⟩
    · rintro i x H1 H1 ds R hi s1 ⟨rfl, gx⟩ jd len r
      obtain ⟨d, gd, dx⟩ := DtAll.getX hys gx
      rw [List.getElem?_map] at gd
      cases e0 : es[i]? with
      | none => rw [e0] at gd; cases gd
      | some k =>
      rw [e0] at gd
      cases gd
      have hk : k.2 ∈ (Tm.map es).kids := List.mem_map.mpr ⟨k, List.mem_of_getElem? e0, rfl⟩
      have := Tm.ht_kid hk
      unfold Tm.ent at dx
      obtain ⟨a1, u1, w1, rfl, hs1, j1, j2⟩ := Dt.t2 (dx.same s1)
      refine ⟨rfl, vTx rfl hs1 rfl ⟨w1, k.2, rfl, j2, nf.kid hk, by omega, fun H2 s2 => r (.int (k.2.size : Nat)) _ H2 s2 (.int _) ?_⟩⟩
      have e1 : (es.map Prod.snd)[i]? = some k.2 := by rw [List.getElem?_map, e0]; rfl
      rw [List.length_append, len, show i + [PyData.int ((k.2.size : Nat) : Int)].length = i + 1 from rfl, List.take_add_one, e1, List.map_append, List.map_append]
      rw [len] at jd
      rw [← jd]; rfl
    rintro H1 ws ds s1 hws da len jd
    rw [len, ly, show es.length = (es.map Prod.snd).length by rw [List.length_map], List.take_length] at jd
    obtain rfl := fin H1 ws ds (es.map Prod.snd) da jd
    refine ⟨D, _, rfl, SqL.of hws, _, _, rfl, rfl, _, rfl, ?_⟩
    have := q H1 s1
    rw [← sm] at this
    exact this
  | form g ts => exact absurd rfl (nf.at_.2 g ts)
  | int m =>
    unfold Tm.d at hv
    obtain ⟨a, x, y, rfl, hs, h1, h2⟩ := Dt.t2 hv
    obtain rfl := h1.s
    exact vTx rfl hs rfl ⟨rfl, _, rfl, sF (by decide +kernel) (vTx rfl hs rfl ⟨rfl, _, rfl, sF (by decide +kernel) ⟨_, rfl, q H (Same.refl H)⟩⟩)⟩
  | name m =>
    unfold Tm.d at hv
    obtain ⟨a, x, y, rfl, hs, h1, h2⟩ := Dt.t2 hv
    obtain rfl := h1.s
    exact vTx rfl hs rfl ⟨rfl, _, rfl, sF (by decide +kernel) (vTx rfl hs rfl ⟨rfl, _, rfl, sF (by decide +kernel) ⟨_, rfl, q H (Same.refl H)⟩⟩)⟩
  | addr m =>
    unfold Tm.d at hv
    obtain ⟨a, x, y, rfl, hs, h1, h2⟩ := Dt.t2 hv
    obtain rfl := h1.s
    exact vTx rfl hs rfl ⟨rfl, _, rfl, sF (by decide +kernel) (vTx rfl hs rfl ⟨rfl, _, rfl, sF (by decide +kernel) ⟨_, rfl, q H (Same.refl H)⟩⟩)⟩
  | var m =>
    unfold Tm.d at hv
    obtain ⟨a, x, y, rfl, hs, h1, h2⟩ := Dt.t2 hv
    obtain rfl := h1.s
    exact vTx rfl hs rfl ⟨rfl, _, rfl, sF (by decide +kernel) (vTx rfl hs rfl ⟨rfl, _, rfl, sF (by decide +kernel) ⟨_, rfl, q H (Same.refl H)⟩⟩)⟩
theorem ok_same {n : Nat} {f : Addr} {fd : FuncData} (F : Fun K "_law_same" "_law_same" s_law_same f fd) (T : Txt K mg) (C_law_is_integer : C8.Cal P w K mg base 1 "_law_is_integer" (spInt K) []) (C_law_same : C8.Cal P w K mg base (n + 1) "_law_same" (spSame K n) []) :
    FnOk P w K mg base CX0 (n + 2) f fd ["actual", "due"] (spSame K (n + 1)) := by
  refine F.ok sc_law_same (fun vs H Q E h => ?_) (fun cdv A outer s H vs Q E hr h => ?_)
  · obtain ⟨x, y, d, e, rfl, _⟩ := h
    rfl
  obtain ⟨x, y, d, e, rfl, hx, hy, hd, hsl, q⟩ := h
  refine ⟨_, (pss_cons (ps_if (pt_val (pe_callB call_isi (by rfl) T.z_isinstance (by decide +kernel) (pa_cons (pv 1) (pa_cons (pe_bltn (v := .ty "tuple") (by rfl) T.z_tuple (by decide +kernel) rfl) pa_nil)))) (pss_cons (ps_if (PW.pt (pw_or (pt_not (pt_val (pe_callB call_isi (by rfl) T.z_isinstance (by decide +kernel) (pa_cons (pv 0) (pa_cons (pe_bltn (v := .ty "tuple") (by rfl) T.z_tuple (by decide +kernel) rfl) pa_nil))))) (pw_or1 (pt_cmpR op_ne (pe_callB call_len_seq (by rfl) T.z_len (by decide +kernel) (pa_cons (pv 0) pa_nil)) (pe_callB call_len_seq (by rfl) T.z_len (by decide +kernel) (pa_cons (pv 1) pa_nil)) (nomark _))))) (pss_one (ps_ret pe_bl)) pss_nil)
    (pss_one (ps_ret (pe_callB (cr_all (by rfl)) (by rfl) T.z_all (by decide +kernel) (pa_cons (pe_lc (own := [("k", 2)]) (g := (gName 2)) (tt := tYes) (by rfl) sc_law_same.nd (pi_range1 (by rfl) T.z_range (pa_cons (pe_callB call_len_seq (by rfl) T.z_len (by decide +kernel) (pa_cons (pv 1) pa_nil)) pa_nil)) (blkOk_by (N := ["actual", "due", "k"]) (sc := defScope s_law_same) (by decide +kernel)) (fun _ _ _ _ _ => (pg_name (i := 2) sc_law_same.nd rfl (Or.inl rfl))) (fun _ _ _ _ _ => pts_nil) (fun _ _ _ _ _ => (C8.pe_c C_law_same hr (by omega) rfl (pa_cons (pe_ix (r := rIx K) ix_seq (pv 0) (pv 2) (fun _ _ => rfl)) (pa_cons (pe_ix (r := rIx K) ix_seq (pv 1) (pv 2) (fun _ _ => rfl)) pa_nil))))) pa_nil))))) pss_nil)
    (pss_cons (ps_if (pt_val (pe_callB call_isi (by rfl) T.z_isinstance (by decide +kernel) (pa_cons (pv 1) (pa_cons (pe_bltn (v := .ty "list") (by rfl) T.z_list (by decide +kernel) rfl) pa_nil)))) (pss_cons (ps_if (PW.pt (pw_or (pt_not (pt_val (pe_callB call_isi (by rfl) T.z_isinstance (by decide +kernel) (pa_cons (pv 0) (pa_cons (pe_bltn (v := .ty "list") (by rfl) T.z_list (by decide +kernel) rfl) pa_nil))))) (pw_or1 (pt_cmpR op_ne (pe_callB call_len_seq (by rfl) T.z_len (by decide +kernel) (pa_cons (pv 0) pa_nil)) (pe_callB call_len_seq (by rfl) T.z_len (by decide +kernel) (pa_cons (pv 1) pa_nil)) (nomark _))))) (pss_one (ps_ret pe_bl)) pss_nil)
    (pss_one (ps_ret (pe_callB (cr_all (by rfl)) (by rfl) T.z_all (by decide +kernel) (pa_cons (pe_lc (own := [("k", 2)]) (g := (gName 2)) (tt := tYes) (by rfl) sc_law_same.nd (pi_range1 (by rfl) T.z_range (pa_cons (pe_callB call_len_seq (by rfl) T.z_len (by decide +kernel) (pa_cons (pv 1) pa_nil)) pa_nil)) (blkOk_by (N := ["actual", "due", "k"]) (sc := defScope s_law_same) (by decide +kernel)) (fun _ _ _ _ _ => (pg_name (i := 2) sc_law_same.nd rfl (Or.inl rfl))) (fun _ _ _ _ _ => pts_nil) (fun _ _ _ _ _ => (C8.pe_c C_law_same hr (by omega) rfl (pa_cons (pe_ix (r := rIx K) ix_seq (pv 0) (pv 2) (fun _ _ => rfl)) (pa_cons (pe_ix (r := rIx K) ix_seq (pv 1) (pv 2) (fun _ _ => rfl)) pa_nil))))) pa_nil))))) pss_nil)
    (pss_cons (ps_if (pt_cmpR op_isN (pv 1) pe_non (nomark _)) (pss_one (ps_ret (pe_cmpR op_isN (pv 0) pe_non (nomark _)))) pss_nil)
    (pss_cons (ps_if (pt_val (pe_callB call_isi (by rfl) T.z_isinstance (by decide +kernel) (pa_cons (pv 1) (pa_cons (pe_bltn (v := .ty "bool") (by rfl) T.z_bool (by decide +kernel) rfl) pa_nil)))) (pss_one (ps_ret (pe_and (pe_callB call_isi (by rfl) T.z_isinstance (by decide +kernel) (pa_cons (pv 0) (pa_cons (pe_bltn (v := .ty "bool") (by rfl) T.z_bool (by decide +kernel) rfl) pa_nil))) (pe_one (pe_cmpR op_eq (pv 0) (pv 1) (nomark _)))))) pss_nil)
    (pss_cons (ps_if (pt_val (pe_callB call_isi (by rfl) T.z_isinstance (by decide +kernel) (pa_cons (pv 1) (pa_cons (pe_bltn (v := .ty "str") (by rfl) T.z_str (by decide +kernel) rfl) pa_nil)))) (pss_one (ps_ret (pe_and (pe_callB call_isi (by rfl) T.z_isinstance (by decide +kernel) (pa_cons (pv 0) (pa_cons (pe_bltn (v := .ty "str") (by rfl) T.z_str (by decide +kernel) rfl) pa_nil))) (pe_one (pe_cmpR op_eq (pv 0) (pv 1) (nomark _)))))) pss_nil)
    (pss_one (ps_ret (pe_and (C8.pe_c C_law_is_integer hr (by omega) rfl (pa_cons (pv 0) pa_nil)) (pe_one (pe_cmpR op_eq (pv 0) (pv 1) (nomark _))))))))))), ?_⟩
  have no : d ≠ e → Q (.bl false) H := fun ne => q false H (Same.refl H) ⟨fun z => (nomatch z), fun z => absurd z ne⟩
  have tN : TyX K H .non (.type "NoneType") := .base .non
  have tB : ∀ b, TyX K H (.bl b) (.type "bool") := fun b => .base (.bl b)
  have tI : ∀ b, TyX K H (.int b) (.type "int") := fun b => .base (.int b)
  have tS : ∀ b, TyX K H (.str b) (.type "str") := fun b => .base (.str b)
  cases e with
  | tuple es =>
    cases hy with
    | tup sy ay =>
    rename_i py ys
    refine vIsi rfl (ty_tup sy) (b := true) (by decide +kernel) ⟨_, rfl, iteT ?_⟩
    cases hx with
    | int b => exact vIsi rfl (tI b) (b := false) (by decide +kernel) ⟨_, rfl, iteT (iteT (no fun z => nomatch z))⟩
    | bl b => exact vIsi rfl (tB b) (b := false) (by decide +kernel) ⟨_, rfl, iteT (iteT (no fun z => nomatch z))⟩
    | str b => exact vIsi rfl (tS b) (b := false) (by decide +kernel) ⟨_, rfl, iteT (iteT (no fun z => nomatch z))⟩
    | non => exact vIsi rfl tN (b := false) (by decide +kernel) ⟨_, rfl, iteT (iteT (no fun z => nomatch z))⟩
    | lst s _ => exact vIsi rfl (ty_lst s) (b := false) (by decide +kernel) ⟨_, rfl, iteT (iteT (no fun z => nomatch z))⟩
    | tup sx ax =>
    rename_i px xs ds
    have tx := ty_tup sx
    have lx := DpAll.length ax
    have ly := DpAll.length ay
    have hd' : PyData.depthAll es + 1 < n + 1 := hd
    obtain ⟨hz, hsa⟩ := slim_seq hsl
    refine vIsi rfl tx (b := true) (by decide +kernel) ⟨_, rfl, iteF ?_⟩
    refine ⟨_, rfl, px, _, rfl, .inr sx, _, rfl, py, _, rfl, .inr sy, rfl, _, rfl, ?_⟩
    by_cases el : xs.length = ys.length
    case neg =>
      rw [show (!decide (V.int (xs.length : Nat) = V.int (ys.length : Nat))) = true by rw [decide_eq_false (fun z => el (by have := V.int.inj z; omega))]; rfl]
      exact iteT (no fun z => el (by have := congrArg List.length (PyData.tuple.inj z); omega))
    rw [el, decide_eq_true rfl]
    refine iteF ⟨_, rfl, py, _, rfl, .inr sy, _, rfl, by omega, by omega, fun D hD => lc_range (lo := 0) (n := ((ys.length : Nat) : Int).toNat) (fun i H' => i ≤ ys.length ∧ Same H H' ∧ ∃ bs : List Bool, H' D = some (.lst (bs.map V.bl)) ∧ bs.length = i ∧ ∀ (j : Nat) (d e : PyData) (b : Bool), ds[j]? = some d → es[j]? = some e → bs[j]? = some b → (b = true ↔ d = e)) ?_ ?_ ?_⟩
    · exact ⟨Nat.zero_le _, same_new hD, [], upd_same, rfl, fun j d e b _ _ h => by simp at h⟩
    · rintro i H' hi ⟨_, sm, bs, hl, lb, hb⟩
      have hi' : i < ys.length := by omega
      have hi2 : i < ds.length := by omega
      have hi3 : i < es.length := by omega
      have gd : ds[i]? = some ds[i] := List.getElem?_eq_getElem hi2
      have ge : es[i]? = some es[i] := List.getElem?_eq_getElem hi3
      obtain ⟨x1, gx, dx⟩ := DpAll.get ax gd
      obtain ⟨y1, gy, dy⟩ := DpAll.get ay ge
      have dd := depth_get ge
      have e0 : (0 : Int) + (i : Int) = (i : Int) := Int.zero_add _
      refine ⟨rfl, yes_ ⟨_, rfl, _, rfl, .inr (.inl ⟨px, xs, _, x1, rfl, rfl, Same.seqT sm sx, by rw [e0]; exact atI_nat gx, ?_⟩)⟩⟩
      refine ⟨_, rfl, _, rfl, .inr (.inl ⟨py, ys, _, y1, rfl, rfl, Same.seqT sm sy, by rw [e0]; exact atI_nat gy, ?_⟩)⟩
      refine ⟨x1, y1, ds[i], es[i], rfl, Dp.same dx sm, Dp.same dy sm, by omega, slim_get hsa ge, fun b H2 s2 eb => ⟨_, s2 _ _ hl, ?_, hi', Same.upd (sm.trans s2) hD, bs ++ [b], ?_, by rw [List.length_append, lb]; rfl, fun j d e b' h1 h2 h3 => ?_⟩⟩
      · rw [List.length_map, lb]; exact smallL (by omega)
      · rw [upd_same, List.map_append]; rfl
      · by_cases hj : j < bs.length
        · rw [List.getElem?_append_left hj] at h3
          exact hb j d e b' h1 h2 h3
        · have := (List.getElem?_eq_some_iff.mp h3).1
          rw [List.length_append] at this
          have h1' : [b].length = 1 := rfl
          have : j = i := by omega
          subst this
          rw [List.getElem?_append_right (by omega), lb, Nat.sub_self] at h3
          cases h3
          rw [gd] at h1
          rw [ge] at h2
          cases h1; cases h2
          exact eb
    · rintro H' ⟨_, sm, bs, hl, lb, hb⟩
      refine ⟨D, _, rfl, SqL.of hl, q _ H' sm ?_⟩
      rw [all_eq (by omega) (by omega) hb]
      exact ⟨fun z => by rw [z], fun z => PyData.tuple.inj z⟩
  | list es =>
    cases hy with
    | lst sy ay =>
    rename_i py ys
    refine vIsi rfl (ty_lst sy) (b := false) (by decide +kernel) ⟨_, rfl, iteF (vIsi rfl (ty_lst sy) (b := true) (by decide +kernel) ⟨_, rfl, iteT ?_⟩)⟩
    cases hx with
    | int b => exact vIsi rfl (tI b) (b := false) (by decide +kernel) ⟨_, rfl, iteT (iteT (no fun z => nomatch z))⟩
    | bl b => exact vIsi rfl (tB b) (b := false) (by decide +kernel) ⟨_, rfl, iteT (iteT (no fun z => nomatch z))⟩
    | str b => exact vIsi rfl (tS b) (b := false) (by decide +kernel) ⟨_, rfl, iteT (iteT (no fun z => nomatch z))⟩
    | non => exact vIsi rfl tN (b := false) (by decide +kernel) ⟨_, rfl, iteT (iteT (no fun z => nomatch z))⟩
    | tup s _ => exact vIsi rfl (ty_tup s) (b := false) (by decide +kernel) ⟨_, rfl, iteT (iteT (no fun z => nomatch z))⟩
    | lst sx ax =>
    rename_i px xs ds
    have tx := ty_lst sx
    have lx := DpAll.length ax
    have ly := DpAll.length ay
    have hd' : PyData.depthAll es + 1 < n + 1 := hd
    obtain ⟨hz, hsa⟩ := slim_lst hsl
    refine vIsi rfl tx (b := true) (by decide +kernel) ⟨_, rfl, iteF ?_⟩
    refine ⟨_, rfl, px, _, rfl, .inl sx, _, rfl, py, _, rfl, .inl sy, rfl, _, rfl, ?_⟩
    by_cases el : xs.length = ys.length
    case neg =>
      rw [show (!decide (V.int (xs.length : Nat) = V.int (ys.length : Nat))) = true by rw [decide_eq_false (fun z => el (by have := V.int.inj z; omega))]; rfl]
      exact iteT (no fun z => el (by have := congrArg List.length (PyData.list.inj z); omega))
    rw [el, decide_eq_true rfl]
    refine iteF ⟨_, rfl, py, _, rfl, .inl sy, _, rfl, by omega, by omega, fun D hD => lc_range (lo := 0) (n := ((ys.length : Nat) : Int).toNat) (fun i H' => i ≤ ys.length ∧ Same H H' ∧ ∃ bs : List Bool, H' D = some (.lst (bs.map V.bl)) ∧ bs.length = i ∧ ∀ (j : Nat) (d e : PyData) (b : Bool), ds[j]? = some d → es[j]? = some e → bs[j]? = some b → (b = true ↔ d = e)) ?_ ?_ ?_⟩
    · exact ⟨Nat.zero_le _, same_new hD, [], upd_same, rfl, fun j d e b _ _ h => by simp at h⟩
    · rintro i H' hi ⟨_, sm, bs, hl, lb, hb⟩
      have hi' : i < ys.length := by omega
      have hi2 : i < ds.length := by omega
      have hi3 : i < es.length := by omega
      have gd : ds[i]? = some ds[i] := List.getElem?_eq_getElem hi2
      have ge : es[i]? = some es[i] := List.getElem?_eq_getElem hi3
      obtain ⟨x1, gx, dx⟩ := DpAll.get ax gd
      obtain ⟨y1, gy, dy⟩ := DpAll.get ay ge
      have dd := depth_get ge
      have e0 : (0 : Int) + (i : Int) = (i : Int) := Int.zero_add _
      refine ⟨rfl, yes_ ⟨_, rfl, _, rfl, .inl (id ⟨px, xs, _, x1, rfl, rfl, sm.seq sx, by rw [e0]; exact atI_nat gx, ?_⟩)⟩⟩
      refine ⟨_, rfl, _, rfl, .inl (id ⟨py, ys, _, y1, rfl, rfl, sm.seq sy, by rw [e0]; exact atI_nat gy, ?_⟩)⟩
      refine ⟨x1, y1, ds[i], es[i], rfl, Dp.same dx sm, Dp.same dy sm, by omega, slim_get hsa ge, fun b H2 s2 eb => ⟨_, s2 _ _ hl, ?_, hi', Same.upd (sm.trans s2) hD, bs ++ [b], ?_, by rw [List.length_append, lb]; rfl, fun j d e b' h1 h2 h3 => ?_⟩⟩
      · rw [List.length_map, lb]; exact smallL (by omega)
      · rw [upd_same, List.map_append]; rfl
      · by_cases hj : j < bs.length
        · rw [List.getElem?_append_left hj] at h3
          exact hb j d e b' h1 h2 h3
        · have := (List.getElem?_eq_some_iff.mp h3).1
          rw [List.length_append] at this
          have h1' : [b].length = 1 := rfl
          have : j = i := by omega
          subst this
          rw [List.getElem?_append_right (by omega), lb, Nat.sub_self] at h3
          cases h3
          rw [gd] at h1
          rw [ge] at h2
          cases h1; cases h2
          exact eb
    · rintro H' ⟨_, sm, bs, hl, lb, hb⟩
      refine ⟨D, _, rfl, SqL.of hl, q _ H' sm ?_⟩
      rw [all_eq (by omega) (by omega) hb]
      exact ⟨fun z => by rw [z], fun z => PyData.list.inj z⟩
  | none =>
    cases hy
    refine vIsi rfl tN (b := false) (by decide +kernel) ⟨_, rfl, iteF (vIsi rfl tN (b := false) (by decide +kernel) ⟨_, rfl, iteF ⟨_, rfl, rfl, _, rfl, iteT ⟨_, rfl, rfl, ?_⟩⟩⟩)⟩
    refine q _ H (Same.refl H) ?_
    rw [decide_eq_true_iff]
    cases hx <;> first | exact ⟨fun _ => rfl, fun _ => rfl⟩ | exact ⟨fun z => (nomatch z), fun z => (nomatch z)⟩
  | bool b =>
    cases hy
    refine vIsi rfl (tB b) (b := false) (by decide +kernel) ⟨_, rfl, iteF (vIsi rfl (tB b) (b := false) (by decide +kernel) ⟨_, rfl, iteF ⟨_, rfl, rfl, _, rfl, iteF (vIsi rfl (tB b) (b := true) (by decide +kernel) ⟨_, rfl, iteT ?_⟩)⟩⟩)⟩
    cases hx with
    | bl c =>
      refine vIsi rfl (tB c) (b := true) (by decide +kernel) ⟨_, rfl, iteT ⟨_, rfl, _, rfl, rfl, q _ H (Same.refl H) ?_⟩⟩
      rw [decide_eq_true_iff]
      exact ⟨fun z => by rw [V.bl.inj z], fun z => by rw [PyData.bool.inj z]⟩
    | int c => exact vIsi rfl (tI c) (b := false) (by decide +kernel) ⟨_, rfl, iteF (no fun z => nomatch z)⟩
    | str c => exact vIsi rfl (tS c) (b := false) (by decide +kernel) ⟨_, rfl, iteF (no fun z => nomatch z)⟩
    | non => exact vIsi rfl tN (b := false) (by decide +kernel) ⟨_, rfl, iteF (no fun z => nomatch z)⟩
    | tup s _ => exact vIsi rfl (ty_tup s) (b := false) (by decide +kernel) ⟨_, rfl, iteF (no fun z => nomatch z)⟩
    | lst s _ => exact vIsi rfl (ty_lst s) (b := false) (by decide +kernel) ⟨_, rfl, iteF (no fun z => nomatch z)⟩
  | str b =>
    cases hy
    refine vIsi rfl (tS b) (b := false) (by decide +kernel) ⟨_, rfl, iteF (vIsi rfl (tS b) (b := false) (by decide +kernel) ⟨_, rfl, iteF ⟨_, rfl, rfl, _, rfl, iteF (vIsi rfl (tS b) (b := false) (by decide +kernel) ⟨_, rfl, iteF (vIsi rfl (tS b) (b := true) (by decide +kernel) ⟨_, rfl, iteT ?_⟩)⟩)⟩⟩)⟩
    cases hx with
    | str c =>
      refine vIsi rfl (tS c) (b := true) (by decide +kernel) ⟨_, rfl, iteT ⟨_, rfl, _, rfl, rfl, q _ H (Same.refl H) ?_⟩⟩
      rw [decide_eq_true_iff]
      exact ⟨fun z => by rw [V.str.inj z], fun z => by rw [PyData.str.inj z]⟩
    | int c => exact vIsi rfl (tI c) (b := false) (by decide +kernel) ⟨_, rfl, iteF (no fun z => nomatch z)⟩
    | bl c => exact vIsi rfl (tB c) (b := false) (by decide +kernel) ⟨_, rfl, iteF (no fun z => nomatch z)⟩
    | non => exact vIsi rfl tN (b := false) (by decide +kernel) ⟨_, rfl, iteF (no fun z => nomatch z)⟩
    | tup s _ => exact vIsi rfl (ty_tup s) (b := false) (by decide +kernel) ⟨_, rfl, iteF (no fun z => nomatch z)⟩
    | lst s _ => exact vIsi rfl (ty_lst s) (b := false) (by decide +kernel) ⟨_, rfl, iteF (no fun z => nomatch z)⟩
  | int b =>
    cases hy
    refine vIsi rfl (tI b) (b := false) (by decide +kernel) ⟨_, rfl, iteF (vIsi rfl (tI b) (b := false) (by decide +kernel) ⟨_, rfl, iteF ⟨_, rfl, rfl, _, rfl, iteF (vIsi rfl (tI b) (b := false) (by decide +kernel) ⟨_, rfl, iteF (vIsi rfl (tI b) (b := false) (by decide +kernel) ⟨_, rfl, iteF ⟨_, rfl, x, d, rfl, hx, ⟨_, rfl, ?_⟩⟩⟩)⟩)⟩⟩)⟩
    cases hx with
    | int c =>
      refine iteT ⟨_, rfl, _, rfl, rfl, q _ H (Same.refl H) ?_⟩
      rw [decide_eq_true_iff]
      exact ⟨fun z => by rw [V.int.inj z], fun z => by rw [PyData.int.inj z]⟩
    | bl c => exact iteF (no fun z => nomatch z)
    | str c => exact iteF (no fun z => nomatch z)
    | non => exact iteF (no fun z => nomatch z)
    | tup s _ => exact iteF (no fun z => nomatch z)
    | lst s _ => exact iteF (no fun z => nomatch z)
  | dict kvs => cases hy
theorem ok_cut {f : Addr} {fd : FuncData} (F : Fun K "_law_cut" "_law_cut" s_law_cut f fd) (C_law_size : C8.Cal P w K mg base 100 "_law_size" (spSz K 100) []) : FnOk P w K mg base CX0 101 f fd ["term", "most"] (spCut K) := by
  refine F.ok sc_law_cut (fun vs H Q E h => ?_) (fun cdv A outer s H vs Q E hr h => ?_)
  · obtain ⟨_, _, _, rfl, _⟩ := h
    rfl
  obtain ⟨v, m, t, rfl, hv, nf, hh, q⟩ := h
  refine ⟨_, (pss_cons (ps_if (pt_cmpR op_gt (C8.pe_c C_law_size hr (by decide) rfl (pa_cons (pv 0) pa_nil)) (pv 1) (nomark _)) (pss_one (ps_ret (pe_tup (pa_cons pe_str (pa_cons pe_int pa_nil))))) pss_nil)
    (pss_one (ps_ret (pv 0)))), ?_⟩
  refine ⟨_, rfl, v, t, rfl, hv, nf, hh, fun H1 s1 => ⟨_, rfl, _, _, rfl, rfl, _, rfl, ite2 (fun _ => ?_) (fun en => ?_)⟩⟩
  · refine ⟨small (by show 2 ≤ _; decide), fun p hp => q _ _ (.int 1) (s1.trans (same_new hp)) ?_ (.inr rfl)⟩
    unfold Tm.d
    exact Dt.mk2 hp (.str _) (.int _)
  · exact ⟨_, rfl, q _ _ t s1 (hv.same s1) (.inl ⟨rfl, by simpa using en⟩)⟩
end
end PK
namespace PK
open PySem L2
/-! what filling and translating do to heights, parts and each other -/
theorem fill_var (tab : Tab) (s : Str) : (Tm.var s).fill tab = (lookA tab s).getD (.var s) := by rw [Tm.fill_eq]; rfl
theorem fill_node (tab : Tab) (c : Str) (ts : List Tm) : (Tm.node c ts).fill tab = .node c (ts.map (Tm.fill tab)) := by rw [Tm.fill_eq]; rfl
theorem fill_form (tab : Tab) (c : Fm) (ts : List Tm) : (Tm.form c ts).fill tab = .form c (ts.map (Tm.fill tab)) := by rw [Tm.fill_eq]; rfl
theorem fill_map (tab : Tab) (es : List (Str × Tm)) : (Tm.map es).fill tab = .map (es.map fun e => (e.1, e.2.fill tab)) := by
  rw [Tm.fill_eq, ← zip_ent es (Tm.fill tab)]; rfl
theorem trans_var (R : List Rw) (s : Str) : (Tm.var s).trans R = .var s := by rw [Tm.trans_eq]; rfl
theorem trans_form (R : List Rw) (c : Fm) (ts : List Tm) : (Tm.form c ts).trans R = .form c (ts.map (Tm.trans R)) := by rw [Tm.trans_eq]; rfl
theorem trans_map (R : List Rw) (es : List (Str × Tm)) : (Tm.map es).trans R = .map (es.map fun e => (e.1, e.2.trans R)) := by
  rw [Tm.trans_eq, ← zip_ent es (Tm.trans R)]; rfl
theorem trans_node {R : List Rw} {c : Str} {r : Rw} (h : rowOf R c = some r) (ts : List Tm) : (Tm.node c ts).trans R = r.t.fill (r.ps.zip (ts.map (Tm.trans R))) := by
  rw [Tm.trans_eq]
  unfold Tm.trK
  dsimp only
  rw [h]; rfl
theorem zip_map2 (f : Tm → Tm) : ∀ (ps : List Str) (l : List Tm), (ps.zip l).map (fun q => (q.1, f q.2)) = ps.zip (l.map f)
  | [], _ => rfl
  | _ :: _, [] => rfl
  | p :: ps, x :: l => by rw [List.zip_cons_cons, List.map_cons, List.map_cons, List.zip_cons_cons, zip_map2 f ps l]
theorem fill_al {p : Tm → Prop} (hp : ∀ t ks, p t → ks.length = t.kids.length → p (t.withKids ks)) {tab : Tab} (ht : ∀ q ∈ tab, Al p q.2) {t : Tm} (h : Al p t) : Al p (t.fill tab) := by
  induction t using Tm.ind with
  | h t ih =>
    have gen : Al p (t.withKids (t.kids.map (Tm.fill tab))) := by
      refine .mk (hp _ _ h.at_ (by rw [List.length_map])) fun k hk => ?_
      rw [Tm.kids_with (by rw [List.length_map])] at hk
      obtain ⟨k', hk', rfl⟩ := List.mem_map.mp hk
      exact ih k' hk' (h.kid hk')
    rw [Tm.fill_eq]
    cases t with
    | var s =>
      show Al p ((lookA tab s).getD (.var s))
      cases e : lookA tab s with
      | none => exact h
      | some x => exact ht (s, x) (lookA_mem e)
    | _ => exact gen
theorem noN_with (t : Tm) (ks : List Tm) (h : noN t) (l : ks.length = t.kids.length) : noN (t.withKids ks) := by
  refine ⟨by rw [Tm.kids_with l, l]; exact h.1, fun f ts e => ?_⟩
  cases t with
  | form g us => exact h.2 g us rfl
  | _ => cases e
theorem okN_with {R : List Rw} (t : Tm) (ks : List Tm) (h : okN R t) (l : ks.length = t.kids.length) : okN R (t.withKids ks) := by
  refine ⟨by rw [Tm.kids_with l, l]; exact h.1, fun c ts e => ?_⟩
  cases t with
  | node c' us =>
    have e : Tm.node c' ks = .node c ts := e
    cases e
    obtain ⟨r, h1, h2, h3⟩ := h.2 c us rfl
    exact ⟨r, h1, h2, by rw [h3]; exact l.symm⟩
  | _ => cases e
theorem noF_fill {tab : Tab} (ht : ∀ q ∈ tab, noF q.2) {t : Tm} (h : noF t) : noF (t.fill tab) := fill_al noN_with ht h
theorem okT_fill {R : List Rw} {tab : Tab} (ht : ∀ q ∈ tab, okT R q.2) {t : Tm} (h : okT R t) : okT R (t.fill tab) := fill_al okN_with ht h
theorem fill_ht {tab : Tab} {m : Nat} (hm : 1 ≤ m) (ht : ∀ q ∈ tab, q.2.ht ≤ m) (t : Tm) : (t.fill tab).ht ≤ t.ht - 1 + m := by
  induction t using Tm.ind with
  | h t ih =>
    have hpos := t.ht_pos
    have gen : (t.withKids (t.kids.map (Tm.fill tab))).ht ≤ t.ht - 1 + m := by
      have : (t.withKids (t.kids.map (Tm.fill tab))).ht ≤ (t.ht - 1 + m - 1) + 1 := Tm.ht_le fun k hk => by
        rw [Tm.kids_with (by rw [List.length_map])] at hk
        obtain ⟨k', hk', rfl⟩ := List.mem_map.mp hk
        have h1 := ih k' hk'
        have h2 := Tm.ht_kid hk'
        have h3 := k'.ht_pos
        omega
      omega
    rw [Tm.fill_eq]
    cases t with
    | var s =>
      show ((lookA tab s).getD (.var s)).ht ≤ _
      cases e : lookA tab s with
      | none => show (Tm.var s).ht ≤ _; omega
      | some x => have := ht (s, x) (lookA_mem e); show x.ht ≤ _; have : x.ht ≤ m := this; omega
    | _ => exact gen
theorem fill_nh {tab : Tab} {m : Nat} (ht : ∀ q ∈ tab, q.2.nh ≤ m) (t : Tm) : (t.fill tab).nh ≤ t.nh + m := by
  induction t using Tm.ind with
  | h t ih =>
    have gen : t.leaf = false → (t.withKids (t.kids.map (Tm.fill tab))).nh ≤ t.nh + m := fun hl => by
      have h0 : 1 ≤ t.nh := by rw [Tm.nh_eq, hl, if_neg (by decide)]; omega
      have : (t.withKids (t.kids.map (Tm.fill tab))).nh ≤ (t.nh - 1 + m) + 1 := Tm.nh_le fun k hk => by
        rw [Tm.kids_with (by rw [List.length_map])] at hk
        obtain ⟨k', hk', rfl⟩ := List.mem_map.mp hk
        have h1 := ih k' hk'
        have h2 := Tm.nh_kid hk'
        omega
      omega
    rw [Tm.fill_eq]
    cases t with
    | var s =>
      show ((lookA tab s).getD (.var s)).nh ≤ _
      cases e : lookA tab s with
      | none => show (Tm.var s).nh ≤ _; omega
      | some x => have : x.nh ≤ m := ht (s, x) (lookA_mem e); show x.nh ≤ _; omega
    | node c ts => exact gen rfl
    | map es => exact gen rfl
    | form f ts => exact gen rfl
    | int n => show (Tm.int n).nh ≤ _; omega
    | name n => show (Tm.name n).nh ≤ _; omega
    | addr n => show (Tm.addr n).nh ≤ _; omega
theorem row_at {R : List Rw} (O : okR R) {c : Str} {ts : List Tm} (h : okT R (.node c ts)) : ∃ r ∈ R, rowOf R c = some r ∧ r.ps.length = ts.length := by
  obtain ⟨r, hr, rfl, hl⟩ := h.at_.2 c ts rfl
  exact ⟨r, hr, rowOf_mem O.nd hr, hl⟩
theorem trans_ht {R : List Rw} (O : okR R) (rok : ∀ r ∈ R, rwOk r) {t : Tm} (h : okT R t) : (t.trans R).ht ≤ 11 * t.nh + 1 := by
  induction t using Tm.ind with
  | h t ih =>
    have gen : (t.withKids (t.kids.map (Tm.trans R))).ht ≤ 11 * t.nh + 1 := Tm.ht_le (n := 11 * t.nh) fun k hk => by
      rw [Tm.kids_with (by rw [List.length_map])] at hk
      obtain ⟨k', hk', rfl⟩ := List.mem_map.mp hk
      have h1 := ih k' hk' (h.kid hk')
      have h2 := Tm.nh_kid hk'
      omega
    cases t with
    | node c ts =>
      obtain ⟨r, hr, er, hl⟩ := row_at O h
      rw [trans_node er]
      obtain ⟨_, tht, _, _⟩ := rok r hr
      have hpos : 1 ≤ (Tm.node c ts).nh := by rw [Tm.nh_eq]; show 1 ≤ 1 + _; omega
      have := fill_ht (m := 11 * (Tm.node c ts).nh - 10) (by omega) (tab := r.ps.zip (ts.map (Tm.trans R))) (fun q hq => by
        obtain ⟨k', hk', e⟩ := List.mem_map.mp (List.of_mem_zip hq).2
        rw [← e]
        have h1 := ih k' hk' (h.kid hk')
        have h2 := Tm.nh_kid (t := .node c ts) hk'
        omega) r.t
      omega
    | _ => rw [Tm.trans_eq]; exact gen
theorem trans_noF {R : List Rw} (O : okR R) (rok : ∀ r ∈ R, rwOk r) {t : Tm} (h : okT R t) (nf : noF t) : noF (t.trans R) := by
  induction t using Tm.ind with
  | h t ih =>
    have gen : noF (t.withKids (t.kids.map (Tm.trans R))) := .mk (noN_with _ _ nf.at_ (by rw [List.length_map])) fun k hk => by
      rw [Tm.kids_with (by rw [List.length_map])] at hk
      obtain ⟨k', hk', rfl⟩ := List.mem_map.mp hk
      exact ih k' hk' (h.kid hk') (nf.kid hk')
    cases t with
    | node c ts =>
      obtain ⟨r, hr, er, hl⟩ := row_at O h
      rw [trans_node er]
      refine noF_fill (fun q hq => ?_) (tpl_noF (rok r hr).1)
      obtain ⟨k', hk', e⟩ := List.mem_map.mp (List.of_mem_zip hq).2
      rw [← e]
      exact ih k' hk' (h.kid hk') (nf.kid hk')
    | _ => rw [Tm.trans_eq]; exact gen
theorem fill_fill {ps : List Str} {σ τ : Tab} (hs : ∀ s ∈ ps, ∃ x, lookA σ s = some x) {t : Tm} (h : tplOk ps t) : (t.fill σ).fill τ = t.fill (σ.map fun q => (q.1, q.2.fill τ)) := by
  induction t using Tm.ind with
  | h t ih =>
    cases t with
    | var s =>
      obtain ⟨x, e⟩ := hs s (h.at_.2.1 s rfl)
      rw [fill_var, fill_var, lookA_map, e]; rfl
    | node c ts =>
      rw [fill_node, fill_node, fill_node, List.map_map]
      exact congrArg (Tm.node c) (List.map_congr_left fun k hk => ih k hk (h.kid hk))
    | form c ts =>
      rw [fill_form, fill_form, fill_form, List.map_map]
      exact congrArg (Tm.form c) (List.map_congr_left fun k hk => ih k hk (h.kid hk))
    | map es =>
      rw [fill_map, fill_map, fill_map, List.map_map]
      refine congrArg Tm.map (List.map_congr_left fun e he => ?_)
      have hk : e.2 ∈ (Tm.map es).kids := List.mem_map.mpr ⟨e, he, rfl⟩
      show (e.1, (e.2.fill σ).fill τ) = _
      rw [ih e.2 hk (h.kid hk)]
    | int _ => rw [Tm.fill_eq, Tm.fill_eq, Tm.fill_eq]; rfl
    | name _ => rw [Tm.fill_eq, Tm.fill_eq, Tm.fill_eq]; rfl
    | addr _ => rw [Tm.fill_eq, Tm.fill_eq, Tm.fill_eq]; rfl
theorem comm {R : List Rw} (O : okR R) (rok : ∀ r ∈ R, rwOk r) (tab : Tab) {t : Tm} (h : okT R t) : (t.fill tab).trans R = (t.trans R).fill (trTab R tab) := by
  induction t using Tm.ind with
  | h t ih =>
    cases t with
    | var s =>
      rw [fill_var, trans_var, fill_var]
      unfold trTab
      rw [lookA_map]
      cases lookA tab s with
      | none => exact trans_var R s
      | some x => rfl
    | node c ts =>
      obtain ⟨r, hr, er, hl⟩ := row_at O h
      rw [fill_node, trans_node er, trans_node er, fill_fill (ps := r.ps) (fun s hs => lookA_has (by rw [List.map_fst_zip (by rw [List.length_map]; omega)]; exact hs)) (rok r hr).1, zip_map2, List.map_map, List.map_map]
      exact congrArg (fun l => r.t.fill (r.ps.zip l)) (List.map_congr_left fun k hk => ih k hk (h.kid hk))
    | form c ts =>
      rw [fill_form, trans_form, trans_form, fill_form, List.map_map, List.map_map]
      exact congrArg (Tm.form c) (List.map_congr_left fun k hk => ih k hk (h.kid hk))
    | map es =>
      rw [fill_map, trans_map, trans_map, fill_map, List.map_map, List.map_map]
      refine congrArg Tm.map (List.map_congr_left fun e he => ?_)
      have hk : e.2 ∈ (Tm.map es).kids := List.mem_map.mpr ⟨e, he, rfl⟩
      show (e.1, (e.2.fill tab).trans R) = _
      rw [ih e.2 hk (h.kid hk)]; rfl
    | int _ => rw [Tm.fill_eq, Tm.trans_eq, Tm.trans_eq, Tm.fill_eq]; rfl
    | name _ => rw [Tm.fill_eq, Tm.trans_eq, Tm.trans_eq, Tm.fill_eq]; rfl
    | addr _ => rw [Tm.fill_eq, Tm.trans_eq, Tm.trans_eq, Tm.fill_eq]; rfl
/-! the data of a term -/
theorem slim_all : ∀ {ds : List PyData}, (∀ d ∈ ds, slim d = true) → slimAll ds = true
  | [], _ => by unfold slimAll; rfl
  | d :: r, h => by
    unfold slimAll
    rw [h d List.mem_cons_self, slim_all fun x hx => h x (List.mem_cons_of_mem _ hx)]; rfl
theorem slim_tup {ds : List PyData} (h1 : ds.length ≤ 1000) (h : ∀ d ∈ ds, slim d = true) : slim (.tuple ds) = true := by
  unfold slim
  rw [decide_eq_true h1, slim_all h]; rfl
theorem slim_str (x : Str) : slim (.str x) = true := by unfold slim; rfl
theorem slim_int (x : Int) : slim (.int x) = true := by unfold slim; rfl
theorem slim_two {a b : PyData} (h1 : slim a = true) (h2 : slim b = true) : slim (.tuple [a, b]) = true := slim_tup (by show 2 ≤ 1000; decide) fun d hd => by
  rcases List.mem_cons.mp hd with rfl | hd
  · exact h1
  · rw [List.mem_singleton.mp hd]; exact h2
theorem tm_depth {t : Tm} (nf : noF t) : t.d.depth ≤ 3 * t.ht := by
  induction t using Tm.ind with
  | h t ih =>
    have hpos := t.ht_pos
    cases t with
    | node c ts =>
      unfold Tm.d
      rw [Tm.ds_map]
      have : PyData.depthAll (ts.map Tm.d) ≤ 3 * (Tm.node c ts).ht - 3 := depth_all fun d hd => by
        obtain ⟨k, hk, rfl⟩ := List.mem_map.mp hd
        have h1 := ih k hk (nf.kid hk)
        have h2 := Tm.ht_kid (t := .node c ts) hk
        omega
      show max 0 (max 0 (max (PyData.depthAll (ts.map Tm.d) + 1) 0)) + 1 ≤ _
      omega
    | map es =>
      unfold Tm.d
      rw [Tm.es_map]
      have : PyData.depthAll (es.map Tm.ent) ≤ 3 * (Tm.map es).ht - 2 := depth_all fun d hd => by
        obtain ⟨e, he, rfl⟩ := List.mem_map.mp hd
        have hk : e.2 ∈ (Tm.map es).kids := List.mem_map.mpr ⟨e, he, rfl⟩
        have h1 := ih e.2 hk (nf.kid hk)
        have h2 := Tm.ht_kid hk
        unfold Tm.ent
        show max 0 (max e.2.d.depth 0) + 1 ≤ _
        omega
      show max 0 (max (PyData.depthAll (es.map Tm.ent) + 1) 0) + 1 ≤ _
      omega
    | form f ts => exact absurd rfl (nf.at_.2 f ts)
    | int n => unfold Tm.d; show max 0 (max 0 0) + 1 ≤ _; omega
    | name n => unfold Tm.d; show max 0 (max 0 0) + 1 ≤ _; omega
    | addr n => unfold Tm.d; show max 0 (max 0 0) + 1 ≤ _; omega
    | var n => unfold Tm.d; show max 0 (max 0 0) + 1 ≤ _; omega
theorem tm_slim {t : Tm} (nf : noF t) : slim t.d = true := by
  induction t using Tm.ind with
  | h t ih =>
    cases t with
    | node c ts =>
      unfold Tm.d
      rw [Tm.ds_map]
      refine slim_tup (by show 3 ≤ 1000; decide) fun d hd => ?_
      rcases List.mem_cons.mp hd with rfl | hd
      · exact slim_str _
      rcases List.mem_cons.mp hd with rfl | hd
      · exact slim_str _
      rw [List.mem_singleton.mp hd]
      refine slim_tup (by rw [List.length_map]; exact nf.at_.1) fun d hd => ?_
      obtain ⟨k, hk, rfl⟩ := List.mem_map.mp hd
      exact ih k hk (nf.kid hk)
    | map es =>
      unfold Tm.d
      rw [Tm.es_map]
      have lk : es.length ≤ 1000 := by have := nf.at_.1; rw [show (Tm.map es).kids = es.map Prod.snd from rfl, List.length_map] at this; exact this
      refine slim_two (slim_str _) (slim_tup (by rw [List.length_map]; exact lk) fun d hd => ?_)
      obtain ⟨e, he, rfl⟩ := List.mem_map.mp hd
      have hk : e.2 ∈ (Tm.map es).kids := List.mem_map.mpr ⟨e, he, rfl⟩
      exact slim_two (slim_str _) (ih e.2 hk (nf.kid hk))
    | form f ts => exact absurd rfl (nf.at_.2 f ts)
    | int n => unfold Tm.d; exact slim_two (slim_str _) (slim_int _)
    | name n => unfold Tm.d; exact slim_two (slim_str _) (slim_str _)
    | addr n => unfold Tm.d; exact slim_two (slim_str _) (slim_int _)
    | var n => unfold Tm.d; exact slim_two (slim_str _) (slim_str _)
/-! drawn terms and rows go together -/
theorem ter_noF {cs : List Con} {t : Tm} (h : terOk cs t) : noF t := Al.imp (fun t h => ⟨by have := h.1; omega, h.2.2⟩) h
theorem ter_okT {cs : List Con} {R : List Rw} (e : R.map (fun r => (r.nm, r.ps.length)) = cs.map (fun x => (x.nm, x.ar))) {t : Tm} (h : terOk cs t) : okT R t := Al.imp (fun t h => ⟨by have := h.1; omega, fun c ts et => by
    obtain ⟨x, hx, e1, e2⟩ := h.2.1 c ts et
    have : (x.nm, x.ar) ∈ R.map (fun r => (r.nm, r.ps.length)) := by rw [e]; exact List.mem_map.mpr ⟨x, hx, rfl⟩
    obtain ⟨r, hr, er⟩ := List.mem_map.mp this
    injection er with er1 er2
    exact ⟨r, hr, er1.trans e1, er2.trans e2⟩⟩) h
theorem rows_okR {cs : List Con} {R : List Rw} (e : R.map (fun r => (r.nm, r.ps.length)) = cs.map (fun x => (x.nm, x.ar))) (nd : (cs.map Con.nm).Nodup) (l : cs.length ≤ 7) (rok : ∀ r ∈ R, rwOk r) : okR R := by
  have e1 : R.map Rw.nm = cs.map Con.nm := by
    have := congrArg (List.map Prod.fst) e
    rw [List.map_map, List.map_map] at this
    exact this
  have e2 : R.length = cs.length := by have := congrArg List.length e; rw [List.length_map, List.length_map] at this; exact this
  exact ⟨by rw [e1]; exact nd, by omega, fun r hr => by have := (rok r hr).2.2.2; omega, fun r hr => Al.imp (fun t h => ⟨by have := h.1; omega, h.2.1⟩) (rok r hr).1, fun r hr => (rok r hr).2.2.1⟩
end PK
namespace PK
open PySem L2
/-! what is known of unknowns: their number, and which of them are values -/
def rListOf (K : PySem.W.Frag) : List V → Hp → VK → Prop := fun xs H Q => ∃ p ys, xs = [.ref p] ∧ (SqL K H p ys ∨ SqT K H p ys) ∧ ∀ l, H l = none → Q (.ref l) (upd H l (.lst ys))
/-- a method that never raises -/
structure CalQ (P : Program) (w : World) (K : PySem.W.Frag) (mg : Str → Option Value) (base : Heap) (k : Nat) (C : Addr) (m : Str) (sp : Sp) : Prop where
  cl : Cls K C
  ex : ∃ (f : Addr) (fd : FuncData) (ps : List Str), Meth K C m f ∧ FnOk P w K mg base CX0 k f fd ps sp ∧ Binds K fd ps []
section
variable {X : Cx} {k j : Nat} {x m : Str} {sp : Sp} {p pos apos : Pos} {o e : Expr} {es : List Expr} {ta : TE} {t : TA} {C : Addr}
theorem pe_me {pl : Sem Bool} (c : CalQ X.prog X.w X.K X.mg X.base k C m sp) (hr : Room j X.A) (hk : k ≤ j) (he : PE X o ta) (ha : PA X (e :: es) t)
    (hst : starEach (e :: es) X.env = (false, eval e X.env) :: starEach es X.env := by rfl) (hpl : (backTo pos (starEach es X.env)).any (·.1) = false := by rfl)
    (ht : eval (.Call (.Attribute o m apos) (e :: es) [] pos) X.env = (do
      let ov ← eval o X.env
      standAt apos.atName
      let (f, first) ← holding [ov] (getMethod ov m pl)
      callWith pos f first (backTo pos (starEach (e :: es) X.env)) (backToKw pos (keywordEach [] X.env))) := by rfl) :
    PE X (.Call (.Attribute o m apos) (e :: es) [] pos) (tMeth C m sp [] C8.E0 ta t) := by
  obtain ⟨f, fd, ps, hm, F, b⟩ := c.ex
  exact pe_meth he c.cl hm F (hr.mono hk) b .nil pass0 ha hst hpl ht
theorem pe_me0 {pl : Sem Bool} (c : CalQ X.prog X.w X.K X.mg X.base k C m sp) (hr : Room j X.A) (hk : k ≤ j) (he : PE X o ta)
    (ht : eval (.Call (.Attribute o m apos) [] [] pos) X.env = (do
      let ov ← eval o X.env
      standAt apos.atName
      let (f, first) ← holding [ov] (getMethod ov m pl)
      callWith pos f first (backTo pos (starEach [] X.env)) (backToKw pos (keywordEach [] X.env))) := by rfl) :
    PE X (.Call (.Attribute o m apos) [] [] pos) (tMeth C m sp [] C8.E0 ta tNil) := by
  obtain ⟨f, fd, ps, hm, F, b⟩ := c.ex
  exact pe_meth0 he c.cl hm F (hr.mono hk) b .nil pass0 ht
theorem pe_mk0 (c : CalC X.prog X.w X.K X.mg X.base k x C sp) (hr : Room j X.A) (hk : k + 1 ≤ j) (hg : Gl X x) (hdb : (x == ("__debug__" : Str)) = false := by decide) : PE X (.Call (.Name x p) [] [] pos) (tMake C sp [] C8.E0 tNil) := by
  obtain ⟨f, fd, ps, M, F, b⟩ := c.ex
  exact pe_make0 M F (hr.mono hk) hg c.gC b .nil pass0 hdb
end
theorem it_W {J : It} {n : Nat} {G : Hp → Prop} {Y : Nat → Hp → V → Hp → Prop} (w : Walk J n G Y) (B : (Hp → Prop) → V → Hp → Prop) {H0 : Hp} {Qd : Hp → Prop} (Pv : Nat → Hp → Prop) (h0 : Pv 0 H0) (hG : ∀ i H, i ≤ n → Pv i H → G H) (hs : ∀ i x H H', i < n → Pv i H → Y i H x H' → B (Pv (i + 1)) x H') (hd : ∀ H, Pv n H → Qd H) :
    ∃ W : Nat → Nat → Hp → Prop, (∃ m, W 0 m H0) ∧ ∀ i m H, W i m H → (J.stop i H ∧ Qd H) ∨ (J.go i H ∧ ∃ Nx : Hp → Prop, (∀ H', Nx H' → ∃ m', m' < m ∧ W (i + 1) m' H') ∧ ∀ x H', J.yld i H x H' → B Nx x H') := by
  refine ⟨fun i m H => m = n - i ∧ i ≤ n ∧ Pv i H, ⟨n, by simp, Nat.zero_le _, h0⟩, ?_⟩
  rintro i m H ⟨rfl, hi, p⟩
  have q := hG i H hi p
  by_cases hlt : i < n
  · refine .inr ⟨w.goes i H hlt q, Pv (i + 1), fun H' p' => ⟨n - (i + 1), by omega, rfl, hlt, p'⟩, fun x H' y => hs i x H H' hlt p (w.yields i H x H' hlt q y)⟩
  · have e : i = n := by omega
    subst e
    exact .inl ⟨w.stops H q, hd H p⟩
structure KTx (K : PySem.W.Frag) (C : Addr) : Prop where
  cl : Cls K C
  nS : NoAttr K C "sorts"
  nW : NoAttr K C "worths"
  nC : NoAttr K C "conditions"
  nG : NoAttr K C "got"
  nM : NoAttr K C "many"
  nT : NoAttr K C "_templates"
  nR : NoAttr K C "_ground"
abbrev knF (dS dW cp dG : Addr) (m : Int) : List (Str × V) := [("sorts", .ref dS), ("worths", .ref dW), ("conditions", .ref cp), ("got", .ref dG), ("many", .int m), ("_templates", .non), ("_ground", .non)]
/-- what stands of it -/
structure Kn (K : PySem.W.Frag) (C : Addr) (H : Hp) (o : Addr) (m : Int) (ws : List (Key × V)) (dW : Addr) : Prop where
  at_ : ∃ dx dS cp dG, H o = some (.ins C dx (knF dS dW cp dG m)) ∧ H dS = some (.dK []) ∧ H dW = some (.dK ws) ∧ SqT K H cp [] ∧ H dG = some (.dK []) ∧ dS ≠ dW ∧ dW ≠ dG
theorem Kn.same {K : PySem.W.Frag} {C : Addr} {H H' : Hp} {o : Addr} {m : Int} {ws : List (Key × V)} {dW : Addr} (h : Kn K C H o m ws dW) (s : Same H H') : Kn K C H' o m ws dW := by
  obtain ⟨dx, dS, cp, dG, h1, h2, h3, h4, h5, h6⟩ := h.at_
  exact ⟨dx, dS, cp, dG, s _ _ h1, s _ _ h2, s _ _ h3, Same.seqT s h4, s _ _ h5, h6⟩
def spKInit (K : PySem.W.Frag) (C : Addr) : Sp := fun vs H Q _ => ∃ (o dx : Addr), vs = [.ref o] ∧ H o = some (.ins C dx []) ∧ ∀ (H' : Hp) (dW : Addr), Keep o H H' → Kn K C H' o 0 [] dW → Q .non H'
def spTwin (K : PySem.W.Frag) (C : Addr) : Sp := fun vs H Q _ => ∃ (o dW : Addr) (m : Int) (ws : List (Key × V)), vs = [.ref o] ∧ Kn K C H o m ws dW ∧ ∀ (H' : Hp) (o' dW' : Addr), Same H H' → H o' = none → H dW' = none → Kn K C H' o' m ws dW' → Q (.ref o') H'
section
variable {P : Program} {w : World} {K : PySem.W.Frag} {mg : Str → Option Value} {base : Heap} {aF aR C : Addr}
abbrev s_Knowledge___init__ : Stmt := (C8.clsBody (topS 34)).getD 0 (.Pass ⟨0, 0, 0, 0⟩)
theorem sc_Knowledge___init__ : FnScope ["self"] ["self"] (defScope s_Knowledge___init__) := ⟨rfl, rfl, rfl, by decide +kernel, rfl, by decide +kernel, by decide +kernel⟩
-- slots: 0:self
abbrev s_Knowledge__twin : Stmt := (C8.clsBody (topS 34)).getD 16 (.Pass ⟨0, 0, 0, 0⟩)
theorem sc_Knowledge__twin : FnScope ["self", "known", "base", "rows"] ["self"] (defScope s_Knowledge__twin) := ⟨rfl, rfl, rfl, by decide +kernel, rfl, by decide +kernel, by decide +kernel⟩
-- slots: 0:self 1:known 2:base(comp) 3:rows(comp)
theorem ok_kinit {f : Addr} {fd : FuncData} (F : Fun K "__init__" "Knowledge.__init__" s_Knowledge___init__ f fd) (X : KTx K C) : FnOk P w K mg base CX0 1 f fd ["self"] (spKInit K C) := by
  refine F.ok sc_Knowledge___init__ (fun vs H Q E h => ?_) (fun cdv A outer s H vs Q E hr h => ?_)
  · obtain ⟨_, _, rfl, _⟩ := h
    rfl
  obtain ⟨o, dx, rfl, ho, q⟩ := h
  refine ⟨_, (pss_cons (ps_fld (pv 0) pe_dnewK rfl)
    (pss_cons (ps_fld (pv 0) pe_dnewK rfl)
    (pss_cons (ps_fld (pv 0) (pe_tup pa_nil) rfl)
    (pss_cons (ps_fld (pv 0) pe_dnewK rfl)
    (pss_cons (ps_fld (pv 0) pe_int rfl)
    (pss_cons (ps_fld (pv 0) pe_non rfl)
    (pss_one (ps_fld (pv 0) pe_non rfl)))))))), ?_⟩
  have put : ∀ (H1 : Hp) (fs : List (Str × V)), Keep o H1 (upd H1 o (.ins C dx fs)) := fun H1 fs b u hb h => by rw [upd_ne hb]; exact h
  -- sorts
  intro dS hdS
  have h1 : (upd H dS (.dK [])) o = some (.ins C dx []) := same_new hdS _ _ ho
  have nS : dS ≠ o := (ne_of_none ho hdS).symm
  have k1 : Keep o H (upd H dS (.dK [])) := Keep.ofSame (same_new hdS)
  have vS : (upd H dS (.dK [])) dS = some (.dK []) := upd_same
  generalize upd H dS (HO.dK []) = H1 at *
  refine ⟨_, rfl, o, C, dx, _, rfl, h1, X.cl, X.nS, (by show 0 < 1000; decide), ?_⟩
  have h2 : (upd H1 o (.ins C dx (putF "sorts" (.ref dS) []))) o = some (.ins C dx [("sorts", .ref dS)]) := upd_same
  have k2 := k1.trans (put H1 (putF "sorts" (.ref dS) []))
  have vS2 := put H1 (putF "sorts" (.ref dS) []) _ _ nS vS
  generalize upd H1 o (.ins C dx (putF "sorts" (.ref dS) [])) = H2 at *
  -- worths
  intro dW hdW
  have nW : dW ≠ o := (ne_of_none h2 hdW).symm
  have dSW : dS ≠ dW := ne_of_none vS2 hdW
  have s3 := same_new (o := .dK []) hdW
  have h3 := s3 _ _ h2
  have k3 := k2.trans (Keep.ofSame s3)
  have vS3 := s3 _ _ vS2
  have vW3 : (upd H2 dW (.dK [])) dW = some (.dK []) := upd_same
  generalize upd H2 dW (HO.dK []) = H3 at *
  refine ⟨_, rfl, o, C, dx, _, rfl, h3, X.cl, X.nW, (by show 1 < 1000; decide), ?_⟩
  have h4 : (upd H3 o (.ins C dx (putF "worths" (.ref dW) [("sorts", .ref dS)]))) o = some (.ins C dx [("sorts", .ref dS), ("worths", .ref dW)]) := upd_same
  have k4 := k3.trans (put H3 (putF "worths" (.ref dW) [("sorts", .ref dS)]))
  have vS4 := put H3 (putF "worths" (.ref dW) [("sorts", .ref dS)]) _ _ nS vS3
  have vW4 := put H3 (putF "worths" (.ref dW) [("sorts", .ref dS)]) _ _ nW vW3
  generalize upd H3 o (.ins C dx (putF "worths" (.ref dW) [("sorts", .ref dS)])) = H4 at *
  -- conditions
  refine ⟨small (by show 0 ≤ _; decide), fun cp hcp => ?_⟩
  have nC : cp ≠ o := (ne_of_none h4 hcp).symm
  have s5 := same_new (o := .tup []) hcp
  have h5 := s5 _ _ h4
  have k5 := k4.trans (Keep.ofSame s5)
  have vS5 := s5 _ _ vS4
  have vW5 := s5 _ _ vW4
  have vC5 : (upd H4 cp (.tup [])) cp = some (.tup []) := upd_same
  generalize upd H4 cp (HO.tup []) = H5 at *
  refine ⟨_, rfl, o, C, dx, _, rfl, h5, X.cl, X.nC, (by show 2 < 1000; decide), ?_⟩
  have h6 : (upd H5 o (.ins C dx (putF "conditions" (.ref cp) [("sorts", .ref dS), ("worths", .ref dW)]))) o = some (.ins C dx [("sorts", .ref dS), ("worths", .ref dW), ("conditions", .ref cp)]) := upd_same
  have p6 := put H5 (putF "conditions" (.ref cp) [("sorts", .ref dS), ("worths", .ref dW)])
  have k6 := k5.trans p6
  have vS6 := p6 _ _ nS vS5
  have vW6 := p6 _ _ nW vW5
  have vC6 := p6 _ _ nC vC5
  clear p6
  generalize upd H5 o (.ins C dx (putF "conditions" (.ref cp) [("sorts", .ref dS), ("worths", .ref dW)])) = H6 at *
  -- got
  intro dG hdG
  have nG : dG ≠ o := (ne_of_none h6 hdG).symm
  have dWG : dW ≠ dG := ne_of_none vW6 hdG
  have s7 := same_new (o := .dK []) hdG
  have h7 := s7 _ _ h6
  have k7 := k6.trans (Keep.ofSame s7)
  have vS7 := s7 _ _ vS6
  have vW7 := s7 _ _ vW6
  have vC7 := s7 _ _ vC6
  have vG7 : (upd H6 dG (.dK [])) dG = some (.dK []) := upd_same
  generalize upd H6 dG (HO.dK []) = H7 at *
  refine ⟨_, rfl, o, C, dx, _, rfl, h7, X.cl, X.nG, (by show 3 < 1000; decide), ?_⟩
  refine ⟨_, rfl, o, C, dx, _, rfl, upd_same, X.cl, X.nM, (by show 4 < 1000; decide), ?_⟩
  refine ⟨_, rfl, o, C, dx, _, rfl, upd_same, X.cl, X.nT, (by show 5 < 1000; decide), ?_⟩
  refine ⟨_, rfl, o, C, dx, _, rfl, upd_same, X.cl, X.nR, (by show 6 < 1000; decide), ?_⟩
  have p8 : ∀ a b c e : List (Str × V), Keep o H7 (upd (upd (upd (upd H7 o (.ins C dx a)) o (.ins C dx b)) o (.ins C dx c)) o (.ins C dx e)) := fun a b c e =>
    (((put H7 a).trans (put _ b)).trans (put _ c)).trans (put _ e)
  exact q _ dW (k7.trans (p8 _ _ _ _)) ⟨dx, dS, cp, dG, upd_same, p8 _ _ _ _ _ _ nS vS7, p8 _ _ _ _ _ _ nW vW7, .inl (.inl (p8 _ _ _ _ _ _ nC vC7)), p8 _ _ _ _ _ _ nG vG7, dSW, dWG⟩
theorem ok_twin {f : Addr} {fd : FuncData} (F : Fun K "_twin" "Knowledge._twin" s_Knowledge__twin f fd) (T : TxtZ K mg aR) (X : KTx K C) (MK : CalC P w K mg base 1 "Knowledge" C (spKInit K C)) : FnOk P w K mg base CX0 3 f fd ["self"] (spTwin K C) := by
  refine F.ok sc_Knowledge__twin (fun vs H Q E h => ?_) (fun cdv A outer s H vs Q E hr h => ?_)
  · obtain ⟨_, _, _, _, rfl, _⟩ := h
    rfl
  obtain ⟨o, dW, m, ws, rfl, ko, q⟩ := h
  refine ⟨_, (pss_cons (ps_set (i := 1) sc_Knowledge__twin.nd rfl (Or.inl rfl) (pe_mk0 MK hr (by decide) rfl))
    (pss_cons (ps_fld (pv 1) (pe_callTy call_dictD (by rfl) T.z_dict (by decide +kernel) (pa_cons (pe_fld (pv 0) rfl) pa_nil)) rfl)
    (pss_cons (ps_fld (pv 1) (pe_callTy call_dictD (by rfl) T.z_dict (by decide +kernel) (pa_cons (pe_fld (pv 0) rfl) pa_nil)) rfl)
    (pss_cons (ps_fld (pv 1) (pe_fld (pv 0) rfl) rfl)
    (pss_cons (ps_lock (ps_fld (pv 1) (pe_dc (own := [("base", 2), ("rows", 3)]) (g := (gTup K 2 (gCons (gName 2) (gCons (gName 3) gNil)))) (tt := tYes) (by rfl) sc_Knowledge__twin.nd (pi_items (pe_fld (pv 0) rfl)) (blkOk_by (N := ["self", "known", "base", "rows"]) (sc := defScope s_Knowledge__twin) (by decide +kernel)) (fun _ _ _ _ _ => (pg_tup (by rfl) (pgs_cons (pg_name (i := 2) sc_Knowledge__twin.nd rfl (Or.inl rfl)) (pgs_cons (pg_name (i := 3) sc_Knowledge__twin.nd rfl (Or.inl rfl)) pgs_nil)))) (fun _ _ _ _ _ => pts_nil) (fun _ _ _ _ _ => (pv 2)) (fun _ _ _ _ _ => (pe_callTy (r := rListOf K) call_list_of (by rfl) T.z_list (by decide +kernel) (pa_cons (pv 3) pa_nil)))) rfl))
    (pss_cons (ps_fld (pv 1) (pe_fld (pv 0) rfl) rfl)
    (pss_cons (ps_fld (pv 1) (pe_fld (pv 0) rfl) rfl)
    (pss_one (ps_ret (pv 1)))))))))), ?_⟩
  obtain ⟨dx, dS, cp, dG, h1, h2, h3, h4, h5, _⟩ := ko.at_
  refine fun o' dx' ho' hdx' ne => ⟨o', dx', rfl, upd_same, fun HA dWA kpA knA => ⟨rfl, ?_⟩⟩
  have sA : Same H HA := fun b u hb => by
    have n1 : b ≠ o' := fun z => by rw [z, ho'] at hb; cases hb
    have n2 : b ≠ dx' := fun z => by rw [z, hdx'] at hb; cases hb
    exact kpA _ _ n1 (by rw [upd_ne n1, upd_ne n2]; exact hb)
  obtain ⟨dx2, eS, ecp, eG, a1, _⟩ := knA.at_
  generalize dWA = eW at a1
  have put : ∀ (Ha : Hp) (fs : List (Str × V)), Keep o' Ha (upd Ha o' (.ins C dx2 fs)) := fun Ha fs b u hb h => by rw [upd_ne hb]; exact h
  have stay : ∀ (Ha : Hp) (fs : List (Str × V)), Same H Ha → Same H (upd Ha o' (.ins C dx2 fs)) := fun Ha fs s b u hb => by
    rw [upd_ne (fun z => by rw [z, ho'] at hb; cases hb)]
    exact s _ _ hb
  clear kpA knA
  -- sorts
  refine ⟨_, rfl, o, C, dx, _, _, rfl, sA _ _ h1, X.cl, X.nS, rfl, dS, [], rfl, .inl (sA _ _ h2), fun p1 hp1 => ?_⟩
  have n1 : p1 ≠ o' := (ne_of_none a1 hp1).symm
  have q1 : p1 ≠ dG := (ne_of_none (sA _ _ h5) hp1).symm
  have sB := sA.trans (same_new (o := .dK []) hp1)
  have aB := same_new (o := .dK []) hp1 _ _ a1
  have b1 : (upd HA p1 (.dK [])) p1 = some (.dK []) := upd_same
  generalize upd HA p1 (HO.dK []) = HB at *
  refine ⟨_, rfl, o', C, dx2, _, rfl, aB, X.cl, X.nS, (by show 7 < 1000; decide), ?_⟩
  have sC := stay HB (putF "sorts" (.ref p1) (knF eS eW ecp eG 0)) sB
  have c1 := put HB (putF "sorts" (.ref p1) (knF eS eW ecp eG 0)) _ _ n1 b1
  have aC : (upd HB o' (.ins C dx2 (putF "sorts" (.ref p1) (knF eS eW ecp eG 0)))) o' = some (.ins C dx2 (knF p1 eW ecp eG 0)) := upd_same
  generalize upd HB o' (HO.ins C dx2 (putF "sorts" (.ref p1) (knF eS eW ecp eG 0))) = HC at *
  -- worths
  refine ⟨_, rfl, o, C, dx, _, _, rfl, sC _ _ h1, X.cl, X.nW, rfl, dW, ws, rfl, .inl (sC _ _ h3), fun p2 hp2 => ?_⟩
  have n2 : p2 ≠ o' := (ne_of_none aC hp2).symm
  have q2 : p2 ≠ dG := (ne_of_none (sC _ _ h5) hp2).symm
  have q3 : p1 ≠ p2 := ne_of_none c1 hp2
  have q4 : H p2 = none := sC.free hp2
  have sD := sC.trans (same_new (o := .dK ws) hp2)
  have aD := same_new (o := .dK ws) hp2 _ _ aC
  have d1 := same_new (o := .dK ws) hp2 _ _ c1
  have d2 : (upd HC p2 (.dK ws)) p2 = some (.dK ws) := upd_same
  generalize upd HC p2 (HO.dK ws) = HD at *
  refine ⟨_, rfl, o', C, dx2, _, rfl, aD, X.cl, X.nW, (by show 7 < 1000; decide), ?_⟩
  have sE := stay HD (putF "worths" (.ref p2) (knF p1 eW ecp eG 0)) sD
  have e1 := put HD (putF "worths" (.ref p2) (knF p1 eW ecp eG 0)) _ _ n1 d1
  have e2 := put HD (putF "worths" (.ref p2) (knF p1 eW ecp eG 0)) _ _ n2 d2
  have aE : (upd HD o' (.ins C dx2 (putF "worths" (.ref p2) (knF p1 eW ecp eG 0)))) o' = some (.ins C dx2 (knF p1 p2 ecp eG 0)) := upd_same
  generalize upd HD o' (HO.ins C dx2 (putF "worths" (.ref p2) (knF p1 eW ecp eG 0))) = HE at *
  -- conditions
  refine ⟨_, rfl, o, C, dx, _, _, rfl, sE _ _ h1, X.cl, X.nC, rfl, _, rfl, o', C, dx2, _, rfl, aE, X.cl, X.nC, (by show 7 < 1000; decide), ?_⟩
  have sF := stay HE (putF "conditions" (.ref cp) (knF p1 p2 ecp eG 0)) sE
  have f1 := put HE (putF "conditions" (.ref cp) (knF p1 p2 ecp eG 0)) _ _ n1 e1
  have f2 := put HE (putF "conditions" (.ref cp) (knF p1 p2 ecp eG 0)) _ _ n2 e2
  have aF' : (upd HE o' (.ins C dx2 (putF "conditions" (.ref cp) (knF p1 p2 ecp eG 0)))) o' = some (.ins C dx2 (knF p1 p2 cp eG 0)) := upd_same
  generalize upd HE o' (HO.ins C dx2 (putF "conditions" (.ref cp) (knF p1 p2 ecp eG 0))) = HF at *
  -- got
  have g5 := sF _ _ h5
  refine ⟨dG, .dK [], g5, trivial, fun od => ?_⟩
  have nG : o' ≠ dG := fun z => by rw [z, h5] at ho'; cases ho'
  have no : o ≠ dG := fun z => by rw [z, h5] at h1; cases h1
  have hL : ∀ b u, b ≠ dG → HF b = some u → (upd HF dG (.frz od (.dK []))) b = some u := fun b u hb h => by rw [upd_ne hb]; exact h
  refine ⟨_, rfl, o, C, dx, _, _, rfl, hL _ _ no (sF _ _ h1), X.cl, X.nG, rfl, dG, od, [], rfl, upd_same, fun D hD => ?_⟩
  have nD : D ≠ dG := fun z => by rw [z, upd_same] at hD; cases hD
  have hD0 : HF D = none := by rwa [upd_ne nD] at hD
  have nDo : D ≠ o' := (ne_of_none aF' hD0).symm
  refine it_W (walk_items (d := dG) (o := od) (kvs := [])) _ (fun i H' => H' = upd (upd HF dG (.frz od (.dK []))) D (.dK [])) rfl (fun i H' _ h => ?_) ?_ ?_
  · rw [h, upd_ne nD.symm, upd_same]
  · rintro i x Ha Hb hi _ _
    exact absurd hi (Nat.not_lt_zero _)
  rintro HG rfl
  refine ⟨_, rfl, o', C, dx2, _, rfl, by rw [upd_ne nDo.symm, upd_ne nG]; exact aF', X.cl, X.nG, (by show 7 < 1000; decide), by rw [upd_ne nG.symm, upd_ne nD.symm, upd_same], ?_⟩
  have aH : (upd (upd (upd (upd HF dG (.frz od (.dK []))) D (.dK [])) o' (.ins C dx2 (putF "got" (.ref D) (knF p1 p2 cp eG 0)))) dG (.dK [])) o' = some (.ins C dx2 (knF p1 p2 cp D 0)) := by rw [upd_ne nG, upd_same]; rfl
  have oth : ∀ b u, b ≠ o' → HF b = some u → (upd (upd (upd (upd HF dG (.frz od (.dK []))) D (.dK [])) o' (.ins C dx2 (putF "got" (.ref D) (knF p1 p2 cp eG 0)))) dG (.dK [])) b = some u ∨ b = dG := fun b u hb h => by
    by_cases e : b = dG
    · exact .inr e
    · refine .inl ?_
      rw [upd_ne e, upd_ne hb, upd_ne (ne_of_none h hD0), upd_ne e]; exact h
  have hG : (upd (upd (upd (upd HF dG (.frz od (.dK []))) D (.dK [])) o' (.ins C dx2 (putF "got" (.ref D) (knF p1 p2 cp eG 0)))) dG (.dK [])) dG = some (.dK []) := upd_same
  have hDD : (upd (upd (upd (upd HF dG (.frz od (.dK []))) D (.dK [])) o' (.ins C dx2 (putF "got" (.ref D) (knF p1 p2 cp eG 0)))) dG (.dK [])) D = some (.dK []) := by rw [upd_ne nD, upd_ne nDo, upd_same]
  generalize upd (upd (upd (upd HF dG (HO.frz od (HO.dK []))) D (HO.dK [])) o' (HO.ins C dx2 (putF "got" (.ref D) (knF p1 p2 cp eG 0)))) dG (HO.dK []) = HG at *
  have sG : Same H HG := fun b u hb => by
    rcases oth b u (fun z => by rw [z, ho'] at hb; cases hb) (sF _ _ hb) with e | e
    · exact e
    · rw [e, h5] at hb
      rw [e, hG]; exact hb
  have i1 : HG p1 = some (.dK []) := (oth _ _ n1 f1).elim id fun e => absurd e q1
  have i2 : HG p2 = some (.dK ws) := (oth _ _ n2 f2).elim id fun e => absurd e q2
  -- many, and no templates
  refine ⟨_, rfl, o, C, dx, _, _, rfl, sG _ _ h1, X.cl, X.nM, rfl, _, rfl, o', C, dx2, _, rfl, aH, X.cl, X.nM, (by show 7 < 1000; decide), ?_⟩
  have sH := stay HG (putF "many" (.int m) (knF p1 p2 cp D 0)) sG
  have aH2 : (upd HG o' (.ins C dx2 (putF "many" (.int m) (knF p1 p2 cp D 0)))) o' = some (.ins C dx2 (knF p1 p2 cp D m)) := upd_same
  have pp := put HG (putF "many" (.int m) (knF p1 p2 cp D 0))
  refine ⟨_, rfl, o, C, dx, _, _, rfl, sH _ _ h1, X.cl, X.nT, rfl, _, rfl, o', C, dx2, _, rfl, aH2, X.cl, X.nT, (by show 7 < 1000; decide), ?_⟩
  have sI := stay _ (putF "_templates" .non (knF p1 p2 cp D m)) sH
  have pq := pp.trans (put _ (putF "_templates" .non (knF p1 p2 cp D m)))
  exact ⟨_, rfl, q _ o' p2 sI ho' q4 ⟨dx2, p1, cp, D, upd_same, pq _ _ n1 i1, pq _ _ n2 i2, Same.seqT sI h4, pq _ _ nDo hDD, q3, ne_of_none f2 hD0⟩⟩
def spFresh (K : PySem.W.Frag) (C : Addr) : Sp := fun vs H Q _ => ∃ (o dW : Addr) (n : Nat) (ws : List (Key × V)), vs = [.ref o, .int (n : Nat)] ∧ Kn K C H o 0 ws dW ∧ n ≤ 100 ∧ ∀ (H' : Hp) (a o' l dW' : Addr), Same H H' → SqT K H' a [.ref o', .ref l] → H' l = some (.lst ((List.range n).map fun i => V.int (i : Nat))) → Kn K C H' o' n ws dW' → Q (.ref a) H'
def spWith (K : PySem.W.Frag) (C : Addr) : Sp := fun vs H Q _ => ∃ (o dW : Addr) (m u : Int) (b : Bool) (ws : List (Key × V)), vs = [.ref o, .int u, .bl b] ∧ Kn K C H o m ws dW ∧ ws.length ≤ 1000 ∧ ∀ (H' : Hp) (o' dW' : Addr), Same H H' → H o' = none → Kn K C H' o' m (putK ws (.inl u) (.bl b)) dW' → Q (.ref o') H'
abbrev s_Knowledge_with_worth : Stmt := (C8.clsBody (topS 34)).getD 3 (.Pass ⟨0, 0, 0, 0⟩)
theorem sc_Knowledge_with_worth : FnScope ["self", "u", "is_value", "known"] ["self", "u", "is_value"] (defScope s_Knowledge_with_worth) := ⟨rfl, rfl, rfl, by decide +kernel, rfl, by decide +kernel, by decide +kernel⟩
-- slots: 0:self 1:u 2:is_value 3:known
theorem ok_with {f : Addr} {fd : FuncData} (F : Fun K "with_worth" "Knowledge.with_worth" s_Knowledge_with_worth f fd) (X : KTx K C) (M_twin : CalQ P w K mg base 3 C "_twin" (spTwin K C)) : FnOk P w K mg base CX0 4 f fd ["self", "u", "is_value"] (spWith K C) := by
  refine F.ok sc_Knowledge_with_worth (fun vs H Q E h => ?_) (fun cdv A outer s H vs Q E hr h => ?_)
  · obtain ⟨_, _, _, _, _, _, rfl, _⟩ := h
    rfl
  obtain ⟨o, dW, m, u, b, ws, rfl, ko, lw, q⟩ := h
  refine ⟨_, (pss_cons (ps_set (i := 3) sc_Knowledge_with_worth.nd rfl (Or.inl rfl) (pe_me0 M_twin hr (by decide) (pv 0)))
    (pss_cons (ps_dput (hu_of hr) (pe_fld (pv 3) rfl) (pv 1) (pv 2) rfl)
    (pss_one (ps_ret (pv 3))))), ?_⟩
  obtain ⟨dx, dS, cp, dG, h1, _⟩ := ko.at_
  refine ⟨_, rfl, o, dx, _, rfl, h1, rfl, o, dW, m, ws, rfl, ko, fun H1 o' eW s1 ho' hw' k1 => ?_⟩
  obtain ⟨dx2, eS, ecp, eG, a1, a2, a3, a4, a5, a6, a7⟩ := k1.at_
  have nW : eW ≠ o' := fun z => by rw [z, a1] at a3; cases a3
  refine ⟨_, rfl, _, rfl, o', C, dx2, _, _, rfl, a1, X.cl, X.nW, rfl, _, rfl, eW, _, rfl, DPut.k (k := Sum.inl u) a3 (smallL (by omega)), ?_⟩
  exact ⟨_, rfl, q _ o' eW (Same.upd s1 hw') ho' ⟨dx2, eS, ecp, eG, by rw [upd_ne nW.symm]; exact a1, by rw [upd_ne a6]; exact a2, upd_same, seqT_updK a4 a3, by rw [upd_ne a7.symm]; exact a5, a6, a7⟩⟩
abbrev s_Knowledge_fresh : Stmt := (C8.clsBody (topS 34)).getD 2 (.Pass ⟨0, 0, 0, 0⟩)
theorem sc_Knowledge_fresh : FnScope ["self", "many", "known"] ["self", "many"] (defScope s_Knowledge_fresh) := ⟨rfl, rfl, rfl, by decide +kernel, rfl, by decide +kernel, by decide +kernel⟩
-- slots: 0:self 1:many 2:known
theorem ok_fresh {f : Addr} {fd : FuncData} (F : Fun K "fresh" "Knowledge.fresh" s_Knowledge_fresh f fd) (T : TxtZ K mg aR) (X : KTx K C) (M_twin : CalQ P w K mg base 3 C "_twin" (spTwin K C)) : FnOk P w K mg base CX0 4 f fd ["self", "many"] (spFresh K C) := by
  refine F.ok sc_Knowledge_fresh (fun vs H Q E h => ?_) (fun cdv A outer s H vs Q E hr h => ?_)
  · obtain ⟨_, _, _, _, rfl, _⟩ := h
    rfl
  obtain ⟨o, dW, n, ws, rfl, ko, hn, q⟩ := h
  refine ⟨_, (pss_cons (ps_set (i := 2) sc_Knowledge_fresh.nd rfl (Or.inl rfl) (pe_me0 M_twin hr (by decide) (pv 0)))
    (pss_cons (ps_fld (pv 2) (pe_op op_add (pe_fld (pv 0) rfl) (pv 1)) rfl)
    (pss_one (ps_ret (pe_tup (pa_cons (pv 2) (pa_cons (pe_listRg (by rfl) (by rfl) T.z_list (prg_2 (by rfl) T.z_range (pe_fld (pv 0) rfl) (pe_fld (pv 2) rfl))) pa_nil))))))), ?_⟩
  obtain ⟨dx, dS, cp, dG, h1, _⟩ := ko.at_
  refine ⟨_, rfl, o, dx, _, rfl, h1, rfl, o, dW, 0, ws, rfl, ko, fun H1 o' eW s1 ho' hw' k1 => ?_⟩
  obtain ⟨dx2, eS, ecp, eG, a1, a2, a3, a4, a5, a6, a7⟩ := k1.at_
  have nn : o ≠ o' := fun z => by rw [z, ho'] at h1; cases h1
  refine ⟨_, rfl, o, C, dx, _, _, rfl, s1 _ _ h1, X.cl, X.nM, rfl, _, rfl, _, _, rfl, rfl, _, rfl, o', C, dx2, _, rfl, a1, X.cl, X.nM, (by show 7 < 1000; decide), ?_⟩
  have sC : Same H (upd H1 o' (.ins C dx2 (putF "many" (.int (0 + (n : Nat))) (knF eS eW ecp eG 0)))) := fun b u hb => by
    rw [upd_ne (fun z => by rw [z, ho'] at hb; cases hb)]
    exact s1 _ _ hb
  have hC : (upd H1 o' (.ins C dx2 (putF "many" (.int (0 + (n : Nat))) (knF eS eW ecp eG 0)))) o' = some (.ins C dx2 (knF eS eW ecp eG n)) := by rw [upd_same, Int.zero_add]; rfl
  have kp : ∀ b u, b ≠ o' → H1 b = some u → (upd H1 o' (.ins C dx2 (putF "many" (.int (0 + (n : Nat))) (knF eS eW ecp eG 0)))) b = some u := fun b u hb h => by rw [upd_ne hb]; exact h
  have m2 := kp _ _ (fun z => by rw [z, a1] at a2; cases a2) a2
  have m3 := kp _ _ (fun z => by rw [z, a1] at a3; cases a3) a3
  have m5 := kp _ _ (fun z => by rw [z, a1] at a5; cases a5) a5
  have m4 : SqT K (upd H1 o' (.ins C dx2 (putF "many" (.int (0 + (n : Nat))) (knF eS eW ecp eG 0)))) ecp [] := seqT_keep a4 (fun b u hb h => kp b u hb h) a1
  generalize upd H1 o' (.ins C dx2 (putF "many" (.int (0 + (n : Nat))) (knF eS eW ecp eG 0))) = H2 at *
  have k2 : Kn K C H2 o' n ws eW := ⟨dx2, eS, ecp, eG, hC, m2, m3, m4, m5, a6, a7⟩
  refine ⟨_, rfl, _, rfl, o, C, dx, _, _, rfl, sC _ _ h1, X.cl, X.nM, rfl, _, rfl, o', C, dx2, _, _, rfl, hC, X.cl, X.nM, rfl, 0, (n : Int), rfl, rfl, RgOk.of_le (by omega) (by omega) (by omega) (by omega), fun l hl => ⟨small (by show 2 ≤ _; decide), fun a ha => ?_⟩⟩
  have s2 : Same H2 _ := (same_new (o := .lst (rgV 0 (n : Int))) hl).trans (same_new (o := .tup [.ref o', .ref l]) ha)
  refine q _ a o' l eW (sC.trans s2) (SqT.of upd_same) ?_ (k2.same s2)
  rw [upd_ne (ne_of_none upd_same ha), upd_same]
  unfold rgV
  rw [show ((n : Int) - 0).toNat = n by omega]
  exact congrArg (fun l => some (HO.lst l)) (List.map_congr_left fun i _ => by rw [Int.zero_add])
end
end PK
namespace PK
open PySem L2
/-! what a term is looked at as -/
def spLook (K : PySem.W.Frag) (C : Addr) : Sp := fun vs H Q _ => ∃ (o dW : Addr) (m : Int) (ws : List (Key × V)) (v : V) (t : Sy), vs = [.ref o, v] ∧ Kn K C H o m ws dW ∧ Dt K H v t.d ∧ Q v H
section
variable {P : Program} {w : World} {K : PySem.W.Frag} {mg : Str → Option Value} {base : Heap} {aF aR C : Addr}
abbrev s_Knowledge_looked : Stmt := (C8.clsBody (topS 34)).getD 14 (.Pass ⟨0, 0, 0, 0⟩)
theorem sc_Knowledge_looked : FnScope ["self", "term", "u", "sort", "_", "constructor", "inner", "parts", "parameters", "template", "part"] ["self", "term"] (defScope s_Knowledge_looked) := ⟨rfl, rfl, rfl, by decide +kernel, rfl, by decide +kernel, by decide +kernel⟩
-- slots: 0:self 1:term 2:u 3:sort 4:_ 5:constructor 6:inner 7:parts 8:parameters 9:template 10:part(comp)
theorem ok_looked {f : Addr} {fd : FuncData} (F : Fun K "looked" "Knowledge.looked" s_Knowledge_looked f fd) (T : Txt K mg) (X : KTx K C) : FnOk P w K mg base CX0 1 f fd ["self", "term"] (spLook K C) := by
  refine F.ok sc_Knowledge_looked (fun vs H Q E h => ?_) (fun cdv A outer s H vs Q E hr h => ?_)
  · obtain ⟨_, _, _, _, _, _, rfl, _⟩ := h
    rfl
  obtain ⟨o, dW, m, ws, v, t, rfl, ko, hv, q⟩ := h
  refine ⟨_, (pss_cons (ps_if (pt_cmpR op_ne (pe_ix ix_tup (pv 1) pe_int (fun _ _ => rfl)) pe_str (nomark _)) (pss_one (ps_ret (pv 1))) pss_nil)
    (pss_cons (ps_set (i := 2) sc_Knowledge_looked.nd rfl (Or.inl rfl) (pe_ix ix_tup (pv 1) pe_int (fun _ _ => rfl)))
    (pss_cons (ps_set (i := 3) sc_Knowledge_looked.nd rfl (Or.inl rfl) (pe_dget1 (hu_of hr) (pe_fld (pv 0) rfl) (pv 2) ⟨by rfl, by rfl, by rfl, by rfl⟩))
    (pss_cons (ps_if (pt_cmpR op_eq (pv 3) pe_str (nomark _)) (pss_one (ps_never)) pss_nil)
    (pss_cons (ps_if (pt_cmpR op_eq (pv 3) pe_str (nomark _)) (pss_one (ps_never)) pss_nil)
    (pss_cons (ps_if (PW.pt (pw_or (pt_cmpR op_isN (pv 3) pe_non (nomark _)) (pw_or1 (pt_val (pe_callB call_isi (by rfl) T.z_isinstance (by decide +kernel) (pa_cons (pv 3) (pa_cons (pe_bltn (v := .ty "str") (by rfl) T.z_str (by decide +kernel) rfl) pa_nil))))))) (pss_one (ps_ret (pv 1))) pss_nil)
    (pss_cons (ps_never)
    (pss_cons (ps_never)
    (pss_cons (ps_never)
    (pss_cons (ps_never)
    (pss_one (ps_never)))))))))))), ?_⟩
  obtain ⟨dx, dS, cp, dG, h1, h2, _⟩ := ko.at_
  cases t with
  | unk n =>
    unfold Sy.d at hv
    obtain ⟨a, x, y, rfl, hs, g1, g2⟩ := Dt.t2 hv
    obtain rfl := g1.s
    obtain rfl := g2.i
    refine vTx rfl hs rfl ⟨rfl, _, rfl, nF rfl ?_⟩
    refine vTx rfl hs rfl ?_
    refine ⟨_, rfl, o, C, dx, _, _, rfl, h1, X.cl, X.nS, rfl, dS, rfl, .inl ⟨_, .inl h2⟩, _, rfl, none, DGet.k (k := Sum.inl n) h2, ?_⟩
    refine ⟨_, rfl, rfl, _, rfl, iteF ⟨_, rfl, rfl, _, rfl, iteF ⟨_, rfl, rfl, _, rfl, iteT (iteT ⟨_, rfl, q⟩)⟩⟩⟩
  | sum ps n =>
    unfold Sy.d at hv
    obtain ⟨a, xs, rfl, hs, dd⟩ := Dt.tn hv
    cases dd with | cons g1 gr => rw [g1.s] at hs; exact vTx rfl hs (atI_nat (j := 0) rfl) ⟨rfl, _, rfl, nT (by decide +kernel) ⟨_, rfl, q⟩⟩
  | name s =>
    unfold Sy.d at hv
    obtain ⟨a, xs, rfl, hs, dd⟩ := Dt.tn hv
    cases dd with | cons g1 gr => rw [g1.s] at hs; exact vTx rfl hs (atI_nat (j := 0) rfl) ⟨rfl, _, rfl, nT (by decide +kernel) ⟨_, rfl, q⟩⟩
  | addr n =>
    unfold Sy.d at hv
    obtain ⟨a, xs, rfl, hs, dd⟩ := Dt.tn hv
    cases dd with | cons g1 gr => rw [g1.s] at hs; exact vTx rfl hs (atI_nat (j := 0) rfl) ⟨rfl, _, rfl, nT (by decide +kernel) ⟨_, rfl, q⟩⟩
  | node c ts =>
    unfold Sy.d at hv
    obtain ⟨a, xs, rfl, hs, dd⟩ := Dt.tn hv
    cases dd with | cons g1 gr => rw [g1.s] at hs; exact vTx rfl hs (atI_nat (j := 0) rfl) ⟨rfl, _, rfl, nT (by decide +kernel) ⟨_, rfl, q⟩⟩
  | map es =>
    unfold Sy.d at hv
    obtain ⟨a, xs, rfl, hs, dd⟩ := Dt.tn hv
    cases dd with | cons g1 gr => rw [g1.s] at hs; exact vTx rfl hs (atI_nat (j := 0) rfl) ⟨rfl, _, rfl, nT (by decide +kernel) ⟨_, rfl, q⟩⟩
def spCtor (K : PySem.W.Frag) (C : Addr) : Sp := fun vs H Q _ => ∃ (o : Addr) (cs : List Con) (c : Con), vs = [.ref o, .str c.nm] ∧ Lng K C H o cs ∧ c ∈ cs ∧ ∀ v, Dt K H v c.d → Q v H
abbrev s_Language_constructor : Stmt := (C8.clsBody (topS 78)).getD 1 (.Pass ⟨0, 0, 0, 0⟩)
theorem sc_Language_constructor : FnScope ["self", "name"] ["self", "name"] (defScope s_Language_constructor) := ⟨rfl, rfl, rfl, by decide +kernel, rfl, by decide +kernel, by decide +kernel⟩
-- slots: 0:self 1:name
theorem ok_ctor {f : Addr} {fd : FuncData} (F : Fun K "constructor" "Language.constructor" s_Language_constructor f fd) (X : LTx K C) : FnOk P w K mg base CX0 1 f fd ["self", "name"] (spCtor K C) := by
  refine F.ok sc_Language_constructor (fun vs H Q E h => ?_) (fun cdv A outer s H vs Q E hr h => ?_)
  · obtain ⟨_, _, _, rfl, _⟩ := h
    rfl
  obtain ⟨o, cs, c, rfl, lg, hc, q⟩ := h
  refine ⟨_, (pss_one (ps_ret (pe_dget (hu_of hr) (pe_fld (pv 0) rfl) (pv 1) (fun _ _ => rfl)))), ?_⟩
  obtain ⟨dx, cp, dT, ru, kvs, h1, h3, h4, h5⟩ := lg.at_
  obtain ⟨v, e1, e2⟩ := h5 c hc
  exact ⟨_, rfl, o, C, dx, _, _, rfl, h1, X.cl, X.nT, rfl, _, rfl, dT, v, rfl, by have z := DGet.k (k := Sum.inr c.nm) h4; rw [e1] at z; exact z, q v e2⟩
end
end PK
namespace PK
open PySem L2
/-! where an evaluation stops -/
inductive Out where
  | non
  | blk (n : Int)
  | rdx
deriving DecidableEq
def conOf (cs : List Con) (c : Str) : Option Con := cs.find? fun x => decide (x.nm = c)
theorem conOf_mem {cs : List Con} (nd : (cs.map Con.nm).Nodup) {x : Con} (h : x ∈ cs) : conOf cs x.nm = some x := by
  unfold conOf
  induction cs with
  | nil => cases h
  | cons y cs ih =>
    rw [List.map_cons, List.nodup_cons] at nd
    rw [List.find?_cons]
    rcases List.mem_cons.mp h with rfl | h
    · rw [decide_eq_true rfl]
    · have : ¬ y.nm = x.nm := fun e => nd.1 (by rw [e]; exact List.mem_map.mpr ⟨x, h, rfl⟩)
      rw [decide_eq_false this]
      exact ih nd.2 h
def firstO (os : List Out) (e : Out) : List Int → Out
  | [] => e
  | p :: r => match (os[p.toNat]?).getD .non with
    | .non => firstO os e r
    | o => o
def endO (x : Con) : Out := if x.kd = "plain" then .rdx else .non
def comb (x : Option Con) (os : List Out) : Out := match x with
  | none => .non
  | some x => firstO os (endO x) x.pl
def pl (cs : List Con) (W : Int → Bool) (t : Sy) : Out := match t with
  | .unk n => if W n = true then .non else .blk n
  | .node c ts => comb (conOf cs c) (ts.attach.map fun k => pl cs W k.1)
  | .sum _ _ => .non
  | .name _ => .non
  | .addr _ => .non
  | .map _ => .non
termination_by sizeOf t
decreasing_by exact Sy.kid_lt (t := .node c ts) k.2
theorem pl_node (cs : List Con) (W : Int → Bool) (c : Str) (ts : List Sy) : pl cs W (.node c ts) = comb (conOf cs c) (ts.map (pl cs W)) := by
  rw [pl, List.attach_map_val (f := pl cs W)]
/-- the steps that a term takes -/
def wpS (cs : List Con) (t : Sy) : Nat := match t with
  | .node c ts => 2 + (match conOf cs c with | none => 0 | some x => (x.pl.map fun p => 1 + ((ts.attach.map fun k => wpS cs k.1)[p.toNat]?).getD 0).sum)
  | .unk _ => 1
  | .sum _ _ => 1
  | .name _ => 1
  | .addr _ => 1
  | .map _ => 1
termination_by sizeOf t
decreasing_by exact Sy.kid_lt (t := .node c ts) k.2
def wpL (cs : List Con) (ts : List Sy) (ps : List Int) : Nat := (ps.map fun p => 1 + ((ts.map (wpS cs))[p.toNat]?).getD 0).sum
theorem wpS_node {cs : List Con} {x : Con} {c : Str} {ts : List Sy} (h : conOf cs c = some x) : wpS cs (.node c ts) = 2 + wpL cs ts x.pl := by
  rw [wpS, h, List.attach_map_val (f := wpS cs)]; rfl
theorem wpS_pos (cs : List Con) (t : Sy) : 1 ≤ wpS cs t := by
  cases t <;> rw [wpS] <;> first | exact Nat.le_refl 1 | omega
/-- a node that is being evaluated: its constructor, its parts, the places that are passed -/
structure Fr where
  x : Con
  ts : List Sy
  j : Nat
def Fr.t (f : Fr) : Sy := .node f.x.nm f.ts
def Fr.o (cs : List Con) (W : Int → Bool) (f : Fr) : Out := firstO (f.ts.map (pl cs W)) (endO f.x) (f.x.pl.drop f.j)
/-- what the nodes come to, the topmost ahead -/
def contO (cs : List Con) (W : Int → Bool) : List Fr → Out
  | [] => .non
  | f :: r => match f.o cs W with
    | .non => contO cs W r
    | o => o
def orO (o e : Out) : Out := match o with | .non => e | o => o
theorem orO_non (e : Out) : orO .non e = e := rfl
theorem contO_cons (cs : List Con) (W : Int → Bool) (f : Fr) (r : List Fr) : contO cs W (f :: r) = orO (f.o cs W) (contO cs W r) := by
  show (match f.o cs W with | .non => contO cs W r | o => o) = _
  cases f.o cs W <;> rfl
theorem firstO_cons (os : List Out) (e : Out) (p : Int) (r : List Int) : firstO os e (p :: r) = orO ((os[p.toNat]?).getD .non) (firstO os e r) := by
  show (match (os[p.toNat]?).getD .non with | .non => firstO os e r | o => o) = _
  cases (os[p.toNat]?).getD .non <;> rfl
theorem orO_assoc (a b c : Out) : orO (orO a b) c = orO a (orO b c) := by cases a <;> rfl
def muF (cs : List Con) (f : Fr) : Nat := 1 + wpL cs f.ts (f.x.pl.drop f.j)
def muS (cs : List Con) (st : List Fr) : Nat := (st.map (muF cs)).sum
/-- a node comes upon the nodes -/
theorem come_node {cs : List Con} {W : Int → Bool} {x : Con} (nd : (cs.map Con.nm).Nodup) (h : x ∈ cs) (ts : List Sy) (st : List Fr) :
    orO (pl cs W (.node x.nm ts)) (contO cs W st) = contO cs W (⟨x, ts, 0⟩ :: st) ∧ muF cs ⟨x, ts, 0⟩ + 1 = wpS cs (.node x.nm ts) := by
  have e := conOf_mem nd h
  refine ⟨?_, by rw [wpS_node e]; show 1 + wpL cs ts (x.pl.drop 0) + 1 = _; rw [List.drop_zero]; omega⟩
  rw [contO_cons, pl_node, e]; rfl
/-- the topmost node's next part -/
theorem next_part {cs : List Con} {W : Int → Bool} {f : Fr} {p : Int} {k : Sy} (hp : f.x.pl[f.j]? = some p) (hk : f.ts[p.toNat]? = some k) (st : List Fr) :
    contO cs W (f :: st) = orO (pl cs W k) (contO cs W (⟨f.x, f.ts, f.j + 1⟩ :: st)) ∧ muF cs f = 1 + wpS cs k + muF cs ⟨f.x, f.ts, f.j + 1⟩ := by
  have hd : f.x.pl.drop f.j = p :: f.x.pl.drop (f.j + 1) := by
    obtain ⟨hj, e⟩ := List.getElem?_eq_some_iff.mp hp
    rw [List.drop_eq_getElem_cons hj, e]
  refine ⟨?_, ?_⟩
  · rw [contO_cons, contO_cons]
    unfold Fr.o
    rw [hd, firstO_cons, List.getElem?_map, hk, orO_assoc]; rfl
  · unfold muF wpL
    rw [hd, List.map_cons, List.sum_cons, List.getElem?_map, hk]
    simp only [Option.map_some, Option.getD_some]
    omega
/-- the topmost node has no further part -/
theorem no_part {cs : List Con} {W : Int → Bool} {f : Fr} (h : f.x.pl.length ≤ f.j) (st : List Fr) : contO cs W (f :: st) = orO (endO f.x) (contO cs W st) ∧ muF cs f = 1 := by
  have hd : f.x.pl.drop f.j = [] := List.drop_of_length_le h
  refine ⟨by rw [contO_cons]; unfold Fr.o; rw [hd]; rfl, by unfold muF wpL; rw [hd]; rfl⟩
/-- terms that a language may evaluate, where the worths of the unknowns are told -/
def syN (cs : List Con) (ks : List Int) : Sy → Prop
  | .unk n => n ∈ ks
  | .node c ts => ∃ x ∈ cs, x.nm = c ∧ ts.length = x.ar
  | _ => True
abbrev SyOk (cs : List Con) (ks : List Int) : Sy → Prop := AlS (syN cs ks)
/-- what is known of the unknowns' worths -/
def Wor (ws : List (Key × V)) (W : Int → Bool) (ks : List Int) : Prop := ∀ n ∈ ks, valV ws (.inl n) = some (.bl (W n))
/-- what a term is to one that comes to it -/
def isO (K : PySem.W.Frag) (H : Hp) (v : V) : Out → Prop
  | .non => v = .non
  | .blk n => Dt K H v (.tuple [.str "blocked", .int n])
  | .rdx => ∃ ns : List Int, Dt K H v (.tuple [.str "redex", .tuple (ns.map .int)])
def spCome (K : PySem.W.Frag) (C : Addr) : Sp := fun vs H Q _ => ∃ (o dW : Addr) (m : Int) (ws : List (Key × V)) (W : Int → Bool) (ks : List Int) (cs : List Con) (v : V) (t : Sy), vs = [.ref o, v] ∧ Kn K C H o m ws dW ∧ Wor ws W ks ∧ Dt K H v t.d ∧ syN cs ks t ∧
  ((∀ c ts, t ≠ .node c ts) → ∀ (H' : Hp) (v' : V), Same H H' → isO K H' v' (pl cs W t) → Q v' H') ∧ ((∃ c ts, t = .node c ts) → Q v H)
section
variable {P : Program} {w : World} {K : PySem.W.Frag} {mg : Str → Option Value} {base : Heap} {aF aR C : Addr}
abbrev s_come_to : Stmt := topS 39
theorem sc_come_to : FnScope ["known", "term", "seen"] ["known", "term"] (defScope s_come_to) := ⟨rfl, rfl, rfl, by decide +kernel, rfl, by decide +kernel, by decide +kernel⟩
-- slots: 0:known 1:term 2:seen
theorem ok_come {f : Addr} {fd : FuncData} (F : Fun K "_come_to" "_come_to" s_come_to f fd) (T : Txt K mg) (X : KTx K C) (M_looked : CalQ P w K mg base 1 C "looked" (spLook K C)) : FnOk P w K mg base CX0 2 f fd ["known", "term"] (spCome K C) := by
  refine F.ok sc_come_to (fun vs H Q E h => ?_) (fun cdv A outer s H vs Q E hr h => ?_)
  · obtain ⟨_, _, _, _, _, _, _, _, _, rfl, _⟩ := h
    rfl
  obtain ⟨o, dW, m, ws, W, ks, cs, v, t, rfl, ko, wo, hv, sn, qA, qB⟩ := h
  refine ⟨_, (pss_cons (ps_if (PW.pt (pw_and (pt_cmpR op_eq (pe_ix ix_tup (pv 1) pe_int (fun _ _ => rfl)) pe_str (nomark _)) (pw_and1 (pt_cmpR op_is_bl (pe_dget1 (hu_of hr) (pe_fld (pv 0) rfl) (pe_ix ix_tup (pv 1) pe_int (fun _ _ => rfl)) ⟨by rfl, by rfl, by rfl, by rfl⟩) pe_bl (nomark _))))) (pss_one (ps_ret pe_non)) pss_nil)
    (pss_cons (ps_set (i := 2) sc_come_to.nd rfl (Or.inl rfl) (pe_me M_looked hr (by decide) (pv 0) (pa_cons (pv 1) pa_nil)))
    (pss_cons (ps_if (pt_cmpR op_eq (pe_ix ix_tup (pv 2) pe_int (fun _ _ => rfl)) pe_str (nomark _)) (pss_cons (ps_if (pt_cmp (pc_dnotin (hu_of hr) (pe_ix ix_tup (pv 2) pe_int (fun _ _ => rfl)) (pe_fld (pv 0) rfl))) (pss_one ps_never) pss_nil)
    (pss_one (ps_ret (pe_tup (pa_cons pe_str (pa_cons (pe_ix ix_tup (pv 2) pe_int (fun _ _ => rfl)) pa_nil)))))) pss_nil)
    (pss_one (ps_ret (pe_ifExp (pt_cmpR op_eq (pe_ix ix_tup (pv 2) pe_int (fun _ _ => rfl)) pe_str (nomark _)) (pv 2) pe_non)))))), ?_⟩
  obtain ⟨dx, dS, cp, dG, h1, h2, h3, _⟩ := ko.at_
  have hv0 := hv
  cases t with
  | unk n =>
    unfold Sy.d at hv
    obtain ⟨a, x, y, rfl, hs, g1, g2⟩ := Dt.t2 hv
    obtain rfl := g1.s
    obtain rfl := g2.i
    have e := wo n sn
    refine vTx rfl hs rfl ⟨rfl, _, rfl, sT rfl ?_⟩
    refine ⟨_, rfl, o, C, dx, _, _, rfl, h1, X.cl, X.nW, rfl, dW, rfl, .inl ⟨_, .inl h3⟩, vTx rfl hs rfl ⟨_, DGet.k (k := Sum.inl n) h3, ?_⟩⟩
    rw [e]
    refine ⟨_, _, rfl, rfl, _, rfl, ?_⟩
    have qn := qA (fun _ _ => Sy.noConfusion)
    rw [pl] at qn
    cases ew : W n with
    | true =>
      rw [ew] at qn
      exact iteT (qn H .non (Same.refl H) rfl)
    | false =>
      rw [ew] at qn
      refine iteF ⟨_, rfl, o, dx, _, rfl, h1, rfl, _, rfl, o, dW, m, ws, _, _, rfl, ko, hv0, ?_⟩
      refine vTx rfl hs rfl ⟨rfl, _, rfl, sT rfl (vTx rfl hs rfl ⟨_, rfl, o, C, dx, _, _, rfl, h1, X.cl, X.nW, rfl, dW, _, rfl, DGet.k (k := Sum.inl n) h3, ?_⟩)⟩
      rw [e]
      refine ⟨_, rfl, iteF (vTx rfl hs rfl ⟨small (by show 2 ≤ _; decide), fun p hp => qn _ _ (same_new hp) ?_⟩)⟩
      exact Dt.mk2 hp (.str _) (.int _)
  | node c ts =>
    unfold Sy.d at hv
    obtain ⟨a, xs, rfl, hs, dd⟩ := Dt.tn hv
    cases dd with | cons g1 gr =>
    rw [g1.s] at hs
    refine vTx rfl hs (atI_nat (j := 0) rfl) ⟨rfl, _, rfl, sF (by decide +kernel) (iteF ?_)⟩
    refine ⟨_, rfl, o, dx, _, rfl, h1, rfl, _, rfl, o, dW, m, ws, _, _, rfl, ko, hv0, ?_⟩
    refine vTx rfl hs (atI_nat (j := 0) rfl) ⟨rfl, _, rfl, sF (by decide +kernel) ?_⟩
    exact vTx rfl hs (atI_nat (j := 0) rfl) ⟨rfl, _, rfl, sT rfl ⟨_, rfl, qB ⟨_, _, rfl⟩⟩⟩
  | sum ps n =>
    unfold Sy.d at hv
    obtain ⟨a, xs, rfl, hs, dd⟩ := Dt.tn hv
    cases dd with | cons g1 gr =>
    rw [g1.s] at hs
    refine vTx rfl hs (atI_nat (j := 0) rfl) ⟨rfl, _, rfl, sF (by decide +kernel) (iteF ?_)⟩
    refine ⟨_, rfl, o, dx, _, rfl, h1, rfl, _, rfl, o, dW, m, ws, _, _, rfl, ko, hv0, ?_⟩
    refine vTx rfl hs (atI_nat (j := 0) rfl) ⟨rfl, _, rfl, sF (by decide +kernel) ?_⟩
    refine vTx rfl hs (atI_nat (j := 0) rfl) ⟨rfl, _, rfl, sF (by decide +kernel) (qA (fun _ _ => Sy.noConfusion) H .non (Same.refl H) (by rw [pl]; exact rfl))⟩
  | name s =>
    unfold Sy.d at hv
    obtain ⟨a, xs, rfl, hs, dd⟩ := Dt.tn hv
    cases dd with | cons g1 gr =>
    rw [g1.s] at hs
    refine vTx rfl hs (atI_nat (j := 0) rfl) ⟨rfl, _, rfl, sF (by decide +kernel) (iteF ?_)⟩
    refine ⟨_, rfl, o, dx, _, rfl, h1, rfl, _, rfl, o, dW, m, ws, _, _, rfl, ko, hv0, ?_⟩
    refine vTx rfl hs (atI_nat (j := 0) rfl) ⟨rfl, _, rfl, sF (by decide +kernel) ?_⟩
    refine vTx rfl hs (atI_nat (j := 0) rfl) ⟨rfl, _, rfl, sF (by decide +kernel) (qA (fun _ _ => Sy.noConfusion) H .non (Same.refl H) (by rw [pl]; exact rfl))⟩
  | addr n =>
    unfold Sy.d at hv
    obtain ⟨a, xs, rfl, hs, dd⟩ := Dt.tn hv
    cases dd with | cons g1 gr =>
    rw [g1.s] at hs
    refine vTx rfl hs (atI_nat (j := 0) rfl) ⟨rfl, _, rfl, sF (by decide +kernel) (iteF ?_)⟩
    refine ⟨_, rfl, o, dx, _, rfl, h1, rfl, _, rfl, o, dW, m, ws, _, _, rfl, ko, hv0, ?_⟩
    refine vTx rfl hs (atI_nat (j := 0) rfl) ⟨rfl, _, rfl, sF (by decide +kernel) ?_⟩
    refine vTx rfl hs (atI_nat (j := 0) rfl) ⟨rfl, _, rfl, sF (by decide +kernel) (qA (fun _ _ => Sy.noConfusion) H .non (Same.refl H) (by rw [pl]; exact rfl))⟩
  | map es =>
    unfold Sy.d at hv
    obtain ⟨a, xs, rfl, hs, dd⟩ := Dt.tn hv
    cases dd with | cons g1 gr =>
    rw [g1.s] at hs
    refine vTx rfl hs (atI_nat (j := 0) rfl) ⟨rfl, _, rfl, sF (by decide +kernel) (iteF ?_)⟩
    refine ⟨_, rfl, o, dx, _, rfl, h1, rfl, _, rfl, o, dW, m, ws, _, _, rfl, ko, hv0, ?_⟩
    refine vTx rfl hs (atI_nat (j := 0) rfl) ⟨rfl, _, rfl, sF (by decide +kernel) ?_⟩
    refine vTx rfl hs (atI_nat (j := 0) rfl) ⟨rfl, _, rfl, sF (by decide +kernel) (qA (fun _ _ => Sy.noConfusion) H .non (Same.refl H) (by rw [pl]; exact rfl))⟩
end
end PK
namespace PK
open PySem L2
/-! the law's evaluation -/
def ev (cs : List Con) (G : Str → Out) (t : Tm) : Out := match t with
  | .var s => G s
  | .node c ts => comb (conOf cs c) (ts.attach.map fun k => ev cs G k.1)
  | .int _ => .non
  | .name _ => .non
  | .addr _ => .non
  | .map _ => .non
  | .form _ _ => .non
termination_by sizeOf t
decreasing_by exact Tm.kid_lt (t := .node c ts) k.2
theorem ev_node (cs : List Con) (G : Str → Out) (c : Str) (ts : List Tm) : ev cs G (.node c ts) = comb (conOf cs c) (ts.map (ev cs G)) := by
  rw [ev, List.attach_map_val (f := ev cs G)]
def gO (k : Str → Int) (b : Str → Bool) (s : Str) : Out := if b s = true then .non else .blk (k s)
theorem firstO_non {os : List Out} {e : Out} : ∀ {ps : List Int}, firstO os e ps = .non ↔ e = .non ∧ ∀ p ∈ ps, (os[p.toNat]?).getD .non = .non
  | [] => ⟨fun h => ⟨h, fun p hp => absurd hp List.not_mem_nil⟩, fun h => h.1⟩
  | p :: r => by
    rw [firstO_cons]
    cases e1 : (os[p.toNat]?).getD .non with
    | non =>
      rw [orO_non, firstO_non (ps := r)]
      refine ⟨fun h => ⟨h.1, fun q hq => ?_⟩, fun h => ⟨h.1, fun q hq => h.2 q (List.mem_cons_of_mem _ hq)⟩⟩
      rcases List.mem_cons.mp hq with rfl | hq
      · exact e1
      · exact h.2 q hq
    | blk n => exact ⟨fun h => (nomatch h), fun h => by have := h.2 p List.mem_cons_self; rw [e1] at this; cases this⟩
    | rdx => exact ⟨fun h => (nomatch h), fun h => by have := h.2 p List.mem_cons_self; rw [e1] at this; cases this⟩
theorem firstO_at {os : List Out} {e : Out} : ∀ {ps : List Int} {i : Nat} {p : Int}, ps[i]? = some p → (∀ q ∈ ps.take i, (os[q.toNat]?).getD .non = .non) → firstO os e ps = orO ((os[p.toNat]?).getD .non) (firstO os e (ps.drop (i + 1)))
  | [], i, p, h, _ => by simp at h
  | q :: r, 0, p, h, _ => by
    simp at h
    subst h
    rw [firstO_cons]; rfl
  | q :: r, i + 1, p, h, k => by
    rw [firstO_cons, k q (by simp), orO_non]
    exact firstO_at (ps := r) (i := i) (by simpa using h) fun z hz => k z (by rw [List.take_succ_cons]; exact List.mem_cons_of_mem _ hz)
/-- the list of the constructors -/
structure Lc (K : PySem.W.Frag) (H : Hp) (p : Addr) (cv : List V) (cs : List Con) : Prop where
  hp : H p = some (.lst cv)
  da : DtAll K H cv (cs.map Con.d)
  nd : (cs.map Con.nm).Nodup
  ok : ∀ x ∈ cs, x.fit ∧ x.ar ≤ 6
theorem Lc.same {K : PySem.W.Frag} {H H' : Hp} {p : Addr} {cv : List V} {cs : List Con} (h : Lc K H p cv cs) (s : Same H H') : Lc K H' p cv cs := ⟨s _ _ h.hp, h.da.same s, h.nd, h.ok⟩
theorem Con.get4 {K : PySem.W.Frag} {H : Hp} {v : V} {x : Con} (h : Dt K H v x.d) : ∃ a b, v = .ref a ∧ SqT K H a [.str x.nm, .int (x.ar : Nat), .str x.kd, .ref b] ∧ SqT K H b (x.pl.map .int) := by
  unfold Con.d at h
  obtain ⟨a, ys, rfl, hs, dys⟩ := Dt.tn h
  cases dys with | cons h1 t1 => cases t1 with | cons h2 t2 => cases t2 with | cons h3 t3 => cases t3 with | cons h4 t4 =>
  cases t4
  obtain ⟨b, zs, rfl, hb, dz⟩ := Dt.tn h4
  rw [h1.s, h2.i, h3.s] at hs
  rw [dz.intsE] at hb
  exact ⟨a, b, rfl, hs, hb⟩
theorem nm_inj {cs : List Con} (nd : (cs.map Con.nm).Nodup) {x y : Con} (hx : x ∈ cs) (hy : y ∈ cs) (e : x.nm = y.nm) : x = y := by
  have h1 := conOf_mem nd hx
  have h2 := conOf_mem nd hy
  rw [e, h2] at h1
  exact (Option.some.inj h1).symm
theorem DtAll.boolsE {K : PySem.W.Frag} {H : Hp} : ∀ {xs : List V} {bs : List Bool}, DtAll K H xs (bs.map PyData.bool) → xs = bs.map V.bl
  | _, [], h => by cases h; rfl
  | _, n :: r, h => by
    cases h with
    | cons h t => rw [DtAll.boolsE t]; cases h; rfl
def spShape (K : PySem.W.Frag) : Sp := fun vs H Q _ => ∃ (p : Addr) (cv : List V) (cs : List Con) (x : Con), vs = [.ref p, .str x.nm] ∧ Lc K H p cv cs ∧ x ∈ cs ∧ ∀ v, Dt K H v x.d → Q v H
section
variable {P : Program} {w : World} {K : PySem.W.Frag} {mg : Str → Option Value} {base : Heap}
abbrev s_law_shape : Stmt := topS 119
theorem sc_law_shape : FnScope ["constructors", "name", "constructor"] ["constructors", "name"] (defScope s_law_shape) := ⟨rfl, rfl, rfl, by decide +kernel, rfl, by decide +kernel, by decide +kernel⟩
-- slots: 0:constructors 1:name 2:constructor
theorem ok_shape {f : Addr} {fd : FuncData} (F : Fun K "_law_shape" "_law_shape" s_law_shape f fd) : FnOk P w K mg base CX0 1 f fd ["constructors", "name"] (spShape K) := by
  refine F.ok sc_law_shape (fun vs H Q E h => ?_) (fun cdv A outer s H vs Q E hr h => ?_)
  · obtain ⟨_, _, _, _, rfl, _⟩ := h
    rfl
  obtain ⟨p, cv, cs, x, rfl, lc, hx, q⟩ := h
  refine ⟨_, (pss_cons (ps_for PassesOwn.never rfl (pi_list (pv 0)) (pg_name (i := 2) sc_law_shape.nd rfl (Or.inl rfl)) (pss_one (ps_if (pt_cmpR op_eq (pe_ix ix_tup (pv 2) pe_int (fun _ _ => rfl)) (pv 1) (nomark _)) (pss_one (ps_ret (pv 2))) pss_nil)))
    (pss_one (ps_ret pe_non))), ?_⟩
  refine ⟨_, rfl, p, rfl, ⟨_, SqL.of lc.hp⟩, for_it (walk_list (K := K) (xs := cv)) (fun i σ H' => ∃ o, σ = [some (.ref p), some (.str x.nm), o] ∧ H' = H ∧ ∀ y ∈ cs.take i, y.nm ≠ x.nm) ?_ ?_ ?_ ?_⟩
  · exact ⟨_, rfl, rfl, fun y hy => by rw [List.take_zero] at hy; cases hy⟩
  · rintro i σ H' _ ⟨_, _, rfl, _⟩
    exact SqL.of lc.hp
  · rintro i v σ H2 H2 hi ⟨o, rfl, rfl, nx⟩ ⟨rfl, gx⟩
    obtain ⟨dd, gd, dx⟩ := DtAll.getX lc.da gx
    rw [List.getElem?_map] at gd
    cases e0 : cs[i]? with
    | none => rw [e0] at gd; cases gd
    | some y =>
    rw [e0] at gd
    cases gd
    have hy : y ∈ cs := List.mem_of_getElem? e0
    obtain ⟨a, b, rfl, hs, hb⟩ := Con.get4 dx
    refine vTx rfl hs rfl ⟨_, rfl, rfl, _, rfl, ?_⟩
    by_cases e : y.nm = x.nm
    · refine sT e ⟨_, rfl, q _ ?_⟩
      rw [← nm_inj lc.nd hy hx e]
      exact dx
    · refine sF e ⟨_, rfl, rfl, fun z hz => ?_⟩
      rw [List.take_add_one, e0] at hz
      rcases List.mem_append.mp hz with h | h
      · exact nx z h
      · obtain rfl : z = y := by simpa using h
        exact e
  rintro σ H1 ⟨o, rfl, rfl, nx⟩
  have lv : cv.length = cs.length := by rw [lc.da.lenD, List.length_map]
  rw [lv, List.take_length] at nx
  exact absurd rfl (nx x hx)
end
end PK
namespace PK
open PySem L2
/-! place_of: the machine -/
theorem cut_last (xs : List V) : cutV xs none (some (-1)) = xs.take (xs.length - 1) := by
  unfold cutV
  rw [HT.sIx_none, List.drop_zero]
  rw [show HT.sIx xs.length xs.length (some (-1)) = ((-1 : Int) + (xs.length : Int)).toNat from rfl]
  congr 1
  omega
def spWay (K : PySem.W.Frag) (C : Addr) : Sp := fun vs H Q _ => ∃ (lo pn pp : Addr) (cs : List Con) (l : List Fr) (nv : List V), vs = [.ref lo, .ref pn, .ref pp] ∧ Lng K C H lo cs ∧ H pn = some (.lst nv) ∧ DtAll K H nv (l.map fun f => f.t.d) ∧ H pp = some (.lst (l.map fun f => .int (f.j : Nat))) ∧ (∀ f ∈ l, f.x ∈ cs ∧ f.x.fit) ∧ l.length ≤ 1000 ∧ (∀ f ∈ l, f.j ≤ f.x.pl.length) ∧ (∀ f ∈ l.dropLast, 1 ≤ f.j) ∧
  ∀ (H' : Hp) (v : V) (ns : List Int), Same H H' → Dt K H' v (.tuple (ns.map .int)) → Q v H'
/-! the machine of place_of -/
theorem ixN_last (n : Nat) : ixN (n + 1) (-1) = some n := by
  unfold ixN
  rw [if_neg (by decide), if_pos (by omega)]
  congr 1
  omega
theorem set_last {α : Type} (l : List α) (x y : α) : (l ++ [x]).set l.length y = l ++ [y] := by
  induction l with
  | nil => rfl
  | cons a l ih => show a :: ((l ++ [x]).set l.length y) = _; rw [ih]; rfl
def cmO (cs : List Con) (W : Int → Bool) : List Sy → Out
  | [] => .non
  | k :: _ => pl cs W k
def FOk (cs : List Con) (ks : List Int) (N : Nat) : List Fr → Prop
  | [] => True
  | f :: r => f.x ∈ cs ∧ SyOk cs ks f.t ∧ f.t.ht + r.length ≤ N ∧ f.j ≤ f.x.pl.length ∧ f.ts.length = f.x.ar ∧ (∀ g ∈ r, 1 ≤ g.j) ∧ FOk cs ks N r
theorem FOk.len {cs : List Con} {ks : List Int} {N : Nat} {st : List Fr} (h : FOk cs ks N st) : st.length ≤ N := by
  cases st with
  | nil => exact Nat.zero_le _
  | cons f r => have := h.2.2.1; have := f.t.ht_pos; rw [List.length_cons]; omega
theorem FOk.mem {cs : List Con} {ks : List Int} {N : Nat} : ∀ {st : List Fr}, FOk cs ks N st → ∀ f ∈ st, f.x ∈ cs ∧ f.j ≤ f.x.pl.length
  | f :: r, h, g, hg => by
    rcases List.mem_cons.mp hg with rfl | hg
    · exact ⟨h.1, h.2.2.2.1⟩
    · exact FOk.mem h.2.2.2.2.2.2 g hg
structure PInv (K : PySem.W.Frag) (H H1 : Hp) (cs : List Con) (ks : List Int) (W : Int → Bool) (N : Nat) (pn pp pc : Addr) (st : List Fr) (cm : List Sy) (nv cv : List V) (out : Out) : Prop where
  s : Same H H1
  hn : H1 pn = some (.lst nv)
  hp : H1 pp = some (.lst (st.reverse.map fun f => .int (f.j : Nat)))
  hc : H1 pc = some (.lst cv)
  dn : DtAll K H1 nv (st.reverse.map fun f => f.t.d)
  dc : DtAll K H1 cv (cm.map Sy.d)
  kc : ∀ k ∈ cm, SyOk cs ks k ∧ k.ht + st.length ≤ N
  l1 : cm.length ≤ 1
  j1 : cm ≠ [] → ∀ g ∈ st, 1 ≤ g.j
  ok : FOk cs ks N st
  eq : orO (cmO cs W cm) (contO cs W st) = out
def muT (cs : List Con) (st : List Fr) (cm : List Sy) : Nat := muS cs st + (cm.map (wpS cs)).sum
def PW_ (K : PySem.W.Frag) (H : Hp) (cs : List Con) (ks : List Int) (W : Int → Bool) (N : Nat) (pn pp pc : Addr) (out : Out) (a b c : V) (m : Nat) (σ : L2.St) (H1 : Hp) : Prop := ∃ (st : List Fr) (cm : List Sy) (nv cv : List V) (o6 o7 o8 o9 : Option V), m = muT cs st cm ∧ σ = [some a, some b, some c, some (.ref pn), some (.ref pp), some (.ref pc), o6, o7, o8, o9] ∧ PInv K H H1 cs ks W N pn pp pc st cm nv cv out
def spPlace (K : PySem.W.Frag) (CL CK : Addr) : Sp := fun vs H Q _ => ∃ (lo o dW : Addr) (m : Int) (ws : List (Key × V)) (W : Int → Bool) (ks : List Int) (cs : List Con) (v : V) (t : Sy), vs = [.ref lo, .ref o, v] ∧ Lng K CL H lo cs ∧ (cs.map Con.nm).Nodup ∧ (∀ x ∈ cs, x.fit ∧ x.ar ≤ 6) ∧ Kn K CK H o m ws dW ∧ Wor ws W ks ∧ Dt K H v t.d ∧ SyOk cs ks t ∧ t.ht ≤ 500 ∧
  ∀ (H' : Hp) (v' : V), Same H H' → isO K H' v' (pl cs W t) → Q v' H'
section
variable {P : Program} {w : World} {K : PySem.W.Frag} {mg : Str → Option Value} {base : Heap} {aF aR CL CK : Addr}
abbrev s_way_through : Stmt := topS 40
theorem sc_way_through : FnScope ["language", "nodes", "passed", "node", "many"] ["language", "nodes", "passed"] (defScope s_way_through) := ⟨rfl, rfl, rfl, by decide +kernel, rfl, by decide +kernel, by decide +kernel⟩
-- slots: 0:language(cell) 1:nodes 2:passed 3:node(comp) 4:many(comp)
abbrev s_place_of : Stmt := topS 38
theorem sc_place_of : FnScope ["language", "known", "term", "nodes", "passed", "coming", "seen", "_", "kind", "strict"] ["language", "known", "term"] (defScope s_place_of) := ⟨rfl, rfl, rfl, by decide +kernel, rfl, by decide +kernel, by decide +kernel⟩
-- slots: 0:language 1:known 2:term 3:nodes 4:passed 5:coming 6:seen 7:_ 8:kind 9:strict
theorem ok_way {f : Addr} {fd : FuncData} (F : Fun K "_way_through" "_way_through" s_way_through f fd) (T : TxtZ K mg aR) (M_constructor : CalQ P w K mg base 1 CL "constructor" (spCtor K CL)) : FnOk P w K mg base CX0 2 f fd ["language", "nodes", "passed"] (spWay K CL) := by
  refine F.ok sc_way_through (fun vs H Q E h => ?_) (fun cdv A outer s H vs Q E hr h => ?_)
  · obtain ⟨_, _, _, _, _, _, rfl, _⟩ := h
    rfl
  obtain ⟨lo, pn, pp, cs, l, nv, rfl, lg, hn, dn, hp, ok, ll, jl, j1, q⟩ := h
  refine ⟨_, (pss_one (ps_ret (pe_callTy call_tuple_of (by rfl) T.z_tuple (by decide +kernel) (pa_cons (pe_lc (own := [("node", 3), ("many", 4)]) (g := (gTup K 2 (gCons (gName 3) (gCons (gName 4) gNil)))) (tt := tYes) (by rfl) sc_way_through.nd (pi_list (pe_slice sl_list (PKZ.pe_listZip (by rfl) (by rfl) T.z_list (by decide +kernel) (by rfl) T.z_zip (pa_cons (pv 1) (pa_cons (pv 2) pa_nil))) po_none (po_some (pe_un un_neg pe_int)))) (blkOk_by (N := ["language", "nodes", "passed", "node", "many"]) (sc := defScope s_way_through) (by decide +kernel)) (fun _ _ _ _ _ => (pg_tup (by rfl) (pgs_cons (pg_name (i := 3) sc_way_through.nd rfl (Or.inl rfl)) (pgs_cons (pg_name (i := 4) sc_way_through.nd rfl (Or.inl rfl)) pgs_nil)))) (fun _ _ _ _ _ => pts_nil) (fun _ _ _ _ _ => (pe_ix (r := rIxT K) ix_tup (pe_ix (r := rIxT K) ix_tup (pe_me M_constructor hr (by decide) (pv 0) (pa_cons (pe_ix (r := rIxT K) ix_tup (pv 3) pe_int (fun _ _ => rfl)) pa_nil)) pe_int (fun _ _ => rfl)) (pe_op op_sub (pv 4) pe_int) (fun _ _ => rfl)))) pa_nil)))), ?_⟩
  have ln : nv.length = l.length := by rw [dn.lenD, List.length_map]
  refine ⟨_, rfl, _, rfl, pn, pp, nv, _, rfl, .inl (SqL.of hn), .inl (SqL.of hp), by have := smallL (n := nv.length) (by omega); rw [List.length_map]; omega, fun H1 pz za s1 hz0 hza lza hz gz => ?_⟩
  have s1 : Same H H1 := s1
  have lz : za.length = l.length := by rw [lza, List.length_map]; omega
  refine ⟨_, rfl, -1, rfl, pz, _, rfl, SqL.of hz, fun p2 hp2 => ?_⟩
  rw [cut_last]
  have s2 : Same H (upd H1 p2 (.lst ((za.map V.ref).take ((za.map V.ref).length - 1)))) := s1.trans (same_new hp2)
  have s12 := same_new (o := .lst ((za.map V.ref).take ((za.map V.ref).length - 1))) hp2
  have e2 : (upd H1 p2 (.lst ((za.map V.ref).take ((za.map V.ref).length - 1)))) p2 = some (.lst ((za.map V.ref).take ((za.map V.ref).length - 1))) := upd_same
  generalize upd H1 p2 (HO.lst ((za.map V.ref).take ((za.map V.ref).length - 1))) = H2 at s2 s12 e2 ⊢
  have lt : ((za.map V.ref).take ((za.map V.ref).length - 1)).length ≤ 1000 := by rw [List.length_take, List.length_map]; omega
  refine ⟨p2, rfl, ⟨_, SqL.of e2⟩, fun D hD => lcS (K := K) (walk_list (xs := (za.map V.ref).take ((za.map V.ref).length - 1))) hD (by omega) (fun ds => ∃ ns : List Int, ds = ns.map .int) ⟨[], rfl⟩ (fun H' s => SqL.of (s _ _ e2)) ?_ ?_⟩
  · rintro i x H3 H3 ds R hi s3 ⟨rfl, gx⟩ ⟨ns, rfl⟩ len r
    rw [List.length_take, List.length_map] at hi
    rw [List.getElem?_take, if_pos (by rw [List.length_map]; omega), List.getElem?_map] at gx
    cases e0 : za[i]? with
    | none => rw [e0] at gx; cases gx
    | some z =>
    rw [e0] at gx
    cases gx
    obtain ⟨u, y, gu, gy, hz3⟩ := gz i z e0
    rw [List.getElem?_map] at gy
    cases e1 : l[i]? with
    | none => rw [e1] at gy; cases gy
    | some fr =>
    rw [e1] at gy
    cases gy
    obtain ⟨il, eil⟩ := List.getElem?_eq_some_iff.mp e1
    have hf : fr ∈ l := List.mem_of_getElem? e1
    have hfd : fr ∈ l.dropLast := by
      rw [List.dropLast_eq_take]
      refine List.mem_of_getElem? (i := i) ?_
      rw [List.getElem?_take, if_pos (by omega)]
      exact e1
    have d1 := j1 fr hfd
    have d2 := jl fr hf
    obtain ⟨cf, gf⟩ := ok fr hf
    obtain ⟨dd, gd, du⟩ := dn.getX gu
    rw [List.getElem?_map, e1] at gd
    cases gd
    have du3 := du.same (s2.trans s3)
    unfold Fr.t Sy.d at du3
    obtain ⟨a4, x4, y4, z4, rfl, hs4, k1, k2, k3⟩ := Dt.t3 du3
    obtain rfl := k1.s
    obtain rfl := k2.s
    have lg3 := lg.same (s2.trans s3)
    obtain ⟨dx, cp, dT, ru, kvs, g1, _⟩ := lg3.at_
    refine ⟨z, _, rfl, SqT.of (s3 _ _ (s12 _ _ hz3)), rfl, _, _, rfl, _, _, rfl, rfl, rfl, ?_⟩
    refine ⟨_, rfl, lo, dx, _, rfl, g1, rfl, vTx rfl hs4 rfl ⟨lo, cs, fr.x, rfl, lg3, cf, fun v5 dv5 => ?_⟩⟩
    obtain ⟨a5, b5, rfl, hs5, hb5⟩ := Con.get4 dv5
    obtain ⟨pz2, gp⟩ : ∃ pz2, fr.x.pl[fr.j - 1]? = some pz2 := ⟨_, List.getElem?_eq_getElem (by omega)⟩
    refine ⟨a5, _, 3, _, rfl, rfl, hs5, atI_nat (j := 3) rfl, ?_⟩
    refine ⟨_, rfl, _, _, rfl, rfl, b5, _, _, .int pz2, rfl, rfl, hb5, ?_, r (.int pz2) _ _ (Same.refl _) (.int _) ⟨ns ++ [pz2], by rw [List.map_append]; rfl⟩⟩
    rw [show ((fr.j : Nat) : Int) - 1 = ((fr.j - 1 : Nat) : Int) by omega]
    exact atI_nat (by rw [List.getElem?_map, gp]; rfl)
  rintro H3 ws ds s3 hws da len ⟨ns, rfl⟩
  exact ⟨D, _, rfl, .inl ⟨SqL.of hws, fun p3 hp3 => q _ _ ns ((s2.trans s3).trans (same_new hp3)) (.tup (SqT.of upd_same) (da.same (same_new hp3)))⟩⟩
theorem ok_place {f : Addr} {fd : FuncData} (F : Fun K "place_of" "place_of" s_place_of f fd) (T : TxtZ K mg aR) (M_constructor : CalQ P w K mg base 1 CL "constructor" (spCtor K CL)) (C_come_to : C8.Cal P w K mg base 2 "_come_to" (spCome K CK) []) (C_way_through : C8.Cal P w K mg base 2 "_way_through" (spWay K CL) []) :
    FnOk P w K mg base CX0 3 f fd ["language", "known", "term"] (spPlace K CL CK) := by
  refine F.ok sc_place_of (fun vs H Q E h => ?_) (fun cdv A outer s H vs Q E hr h => ?_)
  · obtain ⟨_, _, _, _, _, _, _, _, _, _, rfl, _⟩ := h
    rfl
  obtain ⟨lo, o, dW, m, ws, W, ks, cs, v, t, rfl, lg, nd, gd, ko, wo, hv, so, ht, q⟩ := h
  refine ⟨_, (pss_cons (ps_par (i := 3) (j := 4) (by rfl) sc_place_of.nd rfl rfl (by decide) rfl rfl (pa_cons (pe_lst pa_nil) (pa_cons (pe_lst pa_nil) pa_nil)) (by rfl))
    (pss_cons (ps_set (i := 5) sc_place_of.nd rfl (Or.inl rfl) (pe_lst (pa_cons (pv 2) pa_nil)))
    (pss_cons (ps_while PassesOwn.never (PW.pt (pw_or (pt_truth (pv 5) (by intro _; rfl)) (pw_or1 (pt_truth (pv 3) (by intro _; rfl))))) (pss_cons (ps_if (pt_truth (pv 5) (by intro _; rfl)) (pss_cons (ps_set (i := 6) sc_place_of.nd rfl (Or.inl rfl) (C8.pe_c C_come_to hr (by decide) rfl (pa_cons (pv 1) (pa_cons (pe_bm0 PySem.F.plainAttrs_list PySem.F.slot_list_pop PySem.F.type_list_pop mt_pop (pv 5)) pa_nil))))
    (pss_cons (ps_if (PW.pt (pw_and (pt_cmpR op_notN (pv 6) pe_non (nomark _)) (pw_and1 (pt_cmpR op_eq (pe_ix ix_tup (pv 6) pe_int (fun _ _ => rfl)) pe_str (nomark _))))) (pss_one (ps_ret (pv 6))) pss_nil)
    (pss_cons (ps_if (pt_cmpR op_notN (pv 6) pe_non (nomark _)) (pss_cons (ps_expr (pe_bm PySem.F.plainAttrs_list PySem.F.slot_list_append PySem.F.type_list_append mt_append (pv 3) (pa_cons (pv 6) pa_nil)))
    (pss_one (ps_expr (pe_bm PySem.F.plainAttrs_list PySem.F.slot_list_append PySem.F.type_list_append mt_append (pv 4) (pa_cons pe_int pa_nil))))) pss_nil)
    (pss_one ps_continue)))) pss_nil)
    (pss_cons (ps_asg (pe_me M_constructor hr (by decide) (pv 0) (pa_cons (pe_ix ix_tup (pe_ix ix_list (pv 3) (pe_un un_neg pe_int) (fun _ _ => rfl)) pe_int (fun _ _ => rfl)) pa_nil)) (pg_tup (by rfl) (pgs_cons (pg_name (i := 7) sc_place_of.nd rfl (Or.inl rfl)) (pgs_cons (pg_name (i := 7) sc_place_of.nd rfl (Or.inl rfl)) (pgs_cons (pg_name (i := 8) sc_place_of.nd rfl (Or.inl rfl)) (pgs_cons (pg_name (i := 9) sc_place_of.nd rfl (Or.inl rfl)) pgs_nil))))))
    (pss_one (ps_if (pt_cmpR op_lt (pe_ix ix_list (pv 4) (pe_un un_neg pe_int) (fun _ _ => rfl)) (pe_callB call_len_seq (by rfl) T.z_len (by decide +kernel) (pa_cons (pv 9) pa_nil)) (nomark _)) (pss_cons (ps_expr (pe_bm PySem.F.plainAttrs_list PySem.F.slot_list_append PySem.F.type_list_append mt_append (pv 5) (pa_cons (pe_ix ix_tup (pe_ix ix_tup (pe_ix ix_list (pv 3) (pe_un un_neg pe_int) (fun _ _ => rfl)) pe_int (fun _ _ => rfl)) (pe_ix ix_tup (pv 9) (pe_ix ix_list (pv 4) (pe_un un_neg pe_int) (fun _ _ => rfl)) (fun _ _ => rfl)) (fun _ _ => rfl)) pa_nil)))
    (pss_one (ps_augS (pv 4) (pe_un un_neg pe_int) L2.PKAg.pg_last pe_int ip_add set_list))) (pss_one (ps_if (pt_cmpR op_eq (pv 8) pe_str (nomark _)) (pss_one (ps_ret (pe_tup (pa_cons pe_str (pa_cons (C8.pe_c C_way_through hr (by decide) rfl (pa_cons (pv 0) (pa_cons (pv 3) (pa_cons (pv 4) pa_nil)))) pa_nil))))) (pss_cons (ps_expr (pe_bm0 PySem.F.plainAttrs_list PySem.F.slot_list_pop PySem.F.type_list_pop mt_pop (pv 3)))
    (pss_one (ps_expr (pe_bm0 PySem.F.plainAttrs_list PySem.F.slot_list_pop PySem.F.type_list_pop mt_pop (pv 4))))))))))))
    (pss_one (ps_ret pe_non))))), ?_⟩
  refine ⟨Nat.zero_le _, fun pn hpn => ⟨Nat.zero_le _, fun pp hpp => ?_⟩⟩
  refine ⟨_, _, rfl, _, rfl, small (by show 1 ≤ _; decide), fun pc hpc => ?_⟩
  have n1 : pn ≠ pp := ne_of_none upd_same hpp
  have n2 : pn ≠ pc := ne_of_none (by rw [upd_ne n1, upd_same]) hpc
  have n3 : pp ≠ pc := ne_of_none upd_same hpc
  have sn1 := same_new (o := .lst []) hpn
  have sn2 := sn1.trans (same_new (o := .lst []) hpp)
  have s0 := sn2.trans (same_new (o := .lst [v]) hpc)
  have f1 : H pn = none := hpn
  have f2 : H pp = none := sn1.free hpp
  have f3 : H pc = none := sn2.free hpc
  refine ⟨PW_ K H cs ks W 500 pn pp pc (pl cs W t) (.ref lo) (.ref o) v, ⟨_, [], [t], [], [v], none, none, none, none, rfl, rfl, s0, ?_, ?_, upd_same, .nil, .cons (hv.same s0) .nil, ?_, Nat.le_refl _, fun _ g hg => absurd hg List.not_mem_nil, trivial, ?_⟩, ?_⟩
  · rw [upd_ne n2, upd_ne n1, upd_same]
  · rw [upd_ne n3, upd_same]; rfl
  · intro k hk
    rw [List.mem_singleton.mp hk]
    exact ⟨so, by show t.ht + 0 ≤ 500; omega⟩
  · show orO (pl cs W t) .non = _
    cases pl cs W t <;> rfl
  rintro m1 σ H1 ⟨st, cm, nv, cv, o6, o7, o8, o9, rfl, rfl, iv⟩
  have lst := iv.ok.len
  have lc : cv.length = cm.length := by rw [iv.dc.lenD, List.length_map]
  have lnv : nv.length = st.length := by rw [iv.dn.lenD, List.length_map, List.length_reverse]
  cases cm with
  | cons k r =>
    obtain rfl : r = [] := List.length_eq_zero_iff.mp (by have := iv.l1; rw [List.length_cons] at this; omega)
    obtain ⟨x, rfl, dx⟩ : ∃ x, cv = [x] ∧ Dt K H1 x k.d := by
      have z := iv.dc
      cases z with | cons h t => cases t; exact ⟨_, rfl, h⟩
    refine ⟨_, rfl, _, .inl ⟨_, SqL.of iv.hc, rfl⟩, ?_⟩
    refine iteT ⟨fun σ' H' => ∃ m', m' < muT cs st [k] ∧ PW_ K H cs ks W 500 pn pp pc (pl cs W t) (.ref lo) (.ref o) v m' σ' H', fun _ _ h => h, ?_⟩
    refine ⟨_, rfl, _, .inl ⟨_, SqL.of iv.hc, rfl⟩, iteT ?_⟩
    obtain ⟨sk, hk⟩ := iv.kc k List.mem_cons_self
    have hc2 : (upd H1 pc (.lst [])) pc = some (.lst []) := upd_same
    have s2 : Same H (upd H1 pc (.lst [])) := Same.upd iv.s f3
    have hn2 : (upd H1 pc (.lst [])) pn = some (.lst nv) := by rw [upd_ne n2]; exact iv.hn
    have hp2 : (upd H1 pc (.lst [])) pp = some (.lst (st.reverse.map fun f => .int (f.j : Nat))) := by rw [upd_ne n3]; exact iv.hp
    have dn2 : DtAll K (upd H1 pc (.lst [])) nv (st.reverse.map fun f => f.t.d) := iv.dn.upd iv.hc
    have dx2 : Dt K (upd H1 pc (.lst [])) x k.d := dx.updL iv.hc
    have j1 := iv.j1 (by simp)
    refine ⟨_, rfl, _, rfl, .inl ⟨rfl, _, SqL.of iv.hc⟩, pc, _, x, rfl, rfl, iv.hc, rfl, ?_⟩
    have eq := iv.eq
    have ok := iv.ok
    clear iv lc
    refine ⟨o, dW, m, ws, W, ks, cs, x, k, rfl, ko.same s2, wo, dx2, sk.at_, fun nn H3 v' s3 io => ?_, fun en => ?_⟩
    · cases e : pl cs W k with
      | non =>
        rw [e] at io
        obtain rfl : v' = .non := io
        refine ⟨_, rfl, rfl, _, rfl, iteF (iteF ⟨_, rfl, rfl, _, rfl, iteF ?_⟩)⟩
        refine ⟨muT cs st [], ?_, st, [], nv, [], some .non, o7, o8, o9, rfl, rfl, s2.trans s3, s3 _ _ hn2, s3 _ _ hp2, s3 _ _ hc2, dn2.same s3, .nil, fun k hk => absurd hk List.not_mem_nil, Nat.zero_le _, fun z => absurd rfl z, ok, ?_⟩
        · have := wpS_pos cs k
          show muS cs st + 0 < muS cs st + (wpS cs k + 0)
          omega
        · rw [← eq]
          show orO .non _ = orO (pl cs W k) _
          rw [e]
      | blk n =>
        rw [e] at io
        have io0 : Dt K H3 v' (.tuple [.str "blocked", .int n]) := io
        obtain ⟨a, y, z, rfl, hs, g1, g2⟩ := Dt.t2 io0
        obtain rfl := g1.s
        refine ⟨_, rfl, rfl, _, rfl, iteT (vTx rfl hs rfl ⟨rfl, _, rfl, sT rfl ⟨_, rfl, q H3 _ (s2.trans s3) ?_⟩⟩)⟩
        rw [← eq]
        show isO K H3 _ (orO (pl cs W k) _)
        rw [e]
        exact io
      | rdx =>
        exfalso
        cases k with
        | node c ts => exact nn c ts rfl
        | unk n =>
          rw [pl] at e
          by_cases hW : W n = true
          · rw [if_pos hW] at e; cases e
          · rw [if_neg hW] at e; cases e
        | sum _ _ => rw [pl] at e; cases e
        | name _ => rw [pl] at e; cases e
        | addr _ => rw [pl] at e; cases e
        | map _ => rw [pl] at e; cases e
    · obtain ⟨c, ts, rfl⟩ := en
      obtain ⟨con, hcon, rfl, hlen⟩ := sk.at_
      have dx3 := dx2
      unfold Sy.d at dx3
      obtain ⟨a, y1, y2, y3, rfl, hs, g1, g2, g3⟩ := Dt.t3 dx3
      obtain rfl := g1.s
      refine ⟨_, rfl, rfl, _, rfl, iteT (vTx rfl hs rfl ⟨rfl, _, rfl, sF (by decide +kernel) ⟨_, rfl, rfl, _, rfl, iteT ?_⟩⟩)⟩
      refine ⟨_, rfl, .inl ⟨rfl, _, SqL.of hn2⟩, _, rfl, pn, nv, _, rfl, rfl, hn2, smallL (by omega), ?_⟩
      have hp3 : (upd (upd H1 pc (.lst [])) pn (.lst (nv ++ [V.ref a]))) pp = some (.lst (st.reverse.map fun f => .int (f.j : Nat))) := by rw [upd_ne n1.symm]; exact hp2
      refine ⟨_, rfl, .inl ⟨rfl, _, SqL.of hp3⟩, pp, _, _, rfl, rfl, hp3, smallL (by rw [List.length_map, List.length_reverse]; omega), ?_⟩
      obtain ⟨c1, c2⟩ := come_node (W := W) nd hcon ts st
      have hn3 : (upd (upd H1 pc (.lst [])) pn (.lst (nv ++ [V.ref a]))) pn = some (.lst (nv ++ [V.ref a])) := upd_same
      have hc3 : (upd (upd H1 pc (.lst [])) pn (.lst (nv ++ [V.ref a]))) pc = some (.lst []) := by rw [upd_ne n2.symm]; exact hc2
      have dn3 : DtAll K (upd (upd H1 pc (.lst [])) pn (.lst (nv ++ [V.ref a]))) (nv ++ [V.ref a]) ((Fr.mk con ts 0 :: st).reverse.map fun f => f.t.d) := by
        rw [List.reverse_cons, List.map_append]
        exact (dn2.append (.cons dx2 .nil)).upd hn2
      refine ⟨muT cs (⟨con, ts, 0⟩ :: st) [], ?_, ⟨con, ts, 0⟩ :: st, [], nv ++ [V.ref a], [], some (V.ref a), o7, o8, o9, rfl, rfl, Same.upd (Same.upd s2 f1) f2, ?_, ?_, ?_, dn3.upd hp3, .nil, fun k hk => absurd hk List.not_mem_nil, Nat.zero_le _, fun z => absurd rfl z, ⟨hcon, sk, hk, Nat.zero_le _, hlen, j1, ok⟩, ?_⟩
      · show (muF cs ⟨con, ts, 0⟩ + muS cs st) + 0 < muS cs st + (wpS cs (.node con.nm ts) + 0)
        omega
      · rw [upd_ne n1]; exact hn3
      · rw [upd_same, List.reverse_cons, List.map_append]; rfl
      · rw [upd_ne n3.symm]; exact hc3
      · rw [← eq]
        show orO .non _ = orO (pl cs W (.node con.nm ts)) _
        rw [c1]; rfl
  | nil =>
    obtain rfl : cv = [] := List.length_eq_zero_iff.mp lc
    refine ⟨_, rfl, _, .inl ⟨_, SqL.of iv.hc, rfl⟩, iteF ⟨_, rfl, _, .inl ⟨_, SqL.of iv.hn, rfl⟩, ?_⟩⟩
    cases st with
    | nil =>
      obtain rfl : nv = [] := List.length_eq_zero_iff.mp lnv
      exact iteF (q H1 .non iv.s (by rw [← iv.eq]; exact rfl))
    | cons fr r =>
      have dn := iv.dn
      rw [List.reverse_cons, List.map_append] at dn
      obtain ⟨us, zs, rfl, du, dz⟩ := DtAll.splitR dn
      obtain ⟨u, rfl, du1⟩ : ∃ u, zs = [u] ∧ Dt K H1 u fr.t.d := by
        cases dz with | cons h t => cases t; exact ⟨_, rfl, h⟩
      have lus : us.length = r.length := by rw [du.lenD, List.length_map, List.length_reverse]
      rw [show (!(us ++ [u]).isEmpty) = true by simp]
      refine iteT ⟨fun σ' H' => ∃ m', m' < muT cs (fr :: r) [] ∧ PW_ K H cs ks W 500 pn pp pc (pl cs W t) (.ref lo) (.ref o) v m' σ' H', fun _ _ h => h, ?_⟩
      refine ⟨_, rfl, _, .inl ⟨_, SqL.of iv.hc, rfl⟩, iteF ?_⟩
      obtain ⟨ok1, ok2, ok3, ok4, ok5, ok6, ok7⟩ := iv.ok
      have du2 := du1
      unfold Fr.t Sy.d at du2
      obtain ⟨a, y1, y2, y3, rfl, hs, g1, g2, g3⟩ := Dt.t3 du2
      obtain rfl := g1.s
      obtain rfl := g2.s
      obtain ⟨b, ys, rfl, hb, hys⟩ := Dt.tn g3
      rw [Sy.ds_map] at hys
      have lg1 := lg.same iv.s
      obtain ⟨dx, cp, dT, ru, kvs, l1, _⟩ := lg1.at_
      refine ⟨_, rfl, lo, dx, _, rfl, l1, rfl, _, rfl, 1, rfl, pn, _, -1, .ref a, rfl, rfl, SqL.of iv.hn, atI_last us (V.ref a), a, _, 1, _, rfl, rfl, hs, atI_nat (j := 1) rfl, lo, cs, fr.x, rfl, lg1, ok1, fun v5 dv5 => ?_⟩
      obtain ⟨a5, b5, rfl, hs5, hb5⟩ := Con.get4 dv5
      have hp := iv.hp
      rw [List.reverse_cons, List.map_append] at hp
      obtain ⟨gc, ga⟩ := gd fr.x ok1
      refine ⟨a5, _, rfl, hs5, rfl, _, _, rfl, _, _, rfl, _, _, rfl, _, _, rfl, rfl, ?_⟩
      have lrr : (r.reverse.map fun f : Fr => V.int (f.j : Nat)).length = r.length := by rw [List.length_map, List.length_reverse]
      refine ⟨_, rfl, 1, rfl, pp, _, -1, .int (fr.j : Nat), rfl, rfl, SqL.of hp, atI_last _ _, _, rfl, b5, _, rfl, .inr hb5, _, _, rfl, rfl, _, rfl, ?_⟩
      rw [List.length_map]
      by_cases hj : fr.j < fr.x.pl.length
      · rw [show decide ((((fr.j : Nat) : Int)) < ((fr.x.pl.length : Nat) : Int)) = true from decide_eq_true (by omega)]
        refine iteT ?_
        obtain ⟨p, gp⟩ : ∃ p, fr.x.pl[fr.j]? = some p := ⟨_, List.getElem?_eq_getElem hj⟩
        obtain ⟨p0, p1⟩ := gc.pl.2.1 p (List.mem_of_getElem? gp)
        obtain ⟨jj, rfl⟩ : ∃ j : Nat, p = j := ⟨p.toNat, by omega⟩
        have hjj : jj < fr.ts.length := by omega
        obtain ⟨u, gu, dk⟩ := hys.getD (i := jj) (d := (fr.ts[jj]).d) (by rw [List.getElem?_map, List.getElem?_eq_getElem hjj]; rfl)
        have hk : fr.ts[jj] ∈ fr.t.kids := List.getElem_mem hjj
        have hkh := Sy.ht_kid hk
        obtain ⟨x1, x2⟩ := next_part (cs := cs) (W := W) (f := fr) (p := ((jj : Nat) : Int)) (k := fr.ts[jj]) gp (List.getElem?_eq_getElem hjj) r
        refine ⟨_, rfl, .inl ⟨rfl, _, SqL.of iv.hc⟩, _, rfl, 1, rfl, pn, _, -1, .ref a, rfl, rfl, SqL.of iv.hn, atI_last us (V.ref a), a, _, 2, _, rfl, rfl, hs, atI_nat (j := 2) rfl, _, rfl, _, rfl, 1, rfl, pp, _, -1, .int (fr.j : Nat), rfl, rfl, SqL.of hp, atI_last _ _, b5, _, _, .int (jj : Nat), rfl, rfl, hb5, atI_nat (by rw [List.getElem?_map, gp]; rfl), b, ys, _, u, rfl, rfl, hb, atI_nat gu, pc, _, _, rfl, rfl, iv.hc, smallL (by decide), ?_⟩
        have hp2 : (upd H1 pc (.lst ([] ++ [u]))) pp = some (.lst ((r.reverse.map fun f : Fr => V.int (f.j : Nat)) ++ [V.int (fr.j : Nat)])) := by rw [upd_ne n3]; exact hp
        refine ⟨_, rfl, 1, rfl, pp, _, -1, .int (fr.j : Nat), rfl, rfl, by decide, SqL.of hp2, atI_last _ _, _, _, rfl, rfl, pp, _, -1, r.length, rfl, rfl, hp2, ?_, ?_⟩
        · rw [List.length_append, lrr]; exact ixN_last _
        refine ⟨muT cs (⟨fr.x, fr.ts, fr.j + 1⟩ :: r) [fr.ts[jj]], ?_, ⟨fr.x, fr.ts, fr.j + 1⟩ :: r, [fr.ts[jj]], us ++ [V.ref a], [u], o6, _, _, _, rfl, rfl, Same.upd (Same.upd iv.s f3) f2, ?_, ?_, ?_, ?_, ?_, ?_, Nat.le_refl _, ?_, ⟨ok1, ok2, ok3, hj, ok5, ok6, ok7⟩, ?_⟩
        · show (muF cs ⟨fr.x, fr.ts, fr.j + 1⟩ + muS cs r) + (wpS cs fr.ts[jj] + 0) < (muF cs fr + muS cs r) + 0
          omega
        · rw [upd_ne n1, upd_ne n2]; exact iv.hn
        · rw [upd_same, List.reverse_cons, List.map_append]
          have := set_last (r.reverse.map fun f : Fr => V.int (f.j : Nat)) (.int (fr.j : Nat)) (.int (((fr.j : Nat) : Int) + 1))
          rw [lrr] at this
          rw [this]; rfl
        · rw [upd_ne n3.symm, upd_same]; rfl
        · have := (iv.dn.upd (us := [u]) iv.hc).upd (us := ((r.reverse.map fun f : Fr => V.int (f.j : Nat)) ++ [V.int (fr.j : Nat)]).set r.length (.int (((fr.j : Nat) : Int) + 1))) hp2
          rw [List.reverse_cons, List.map_append] at this ⊢
          exact this
        · exact .cons ((dk.updL (us := [u]) iv.hc).updL hp2) .nil
        · intro k hk'
          rw [List.mem_singleton.mp hk']
          refine ⟨ok2.kid hk, ?_⟩
          show (fr.ts[jj]).ht + (r.length + 1) ≤ 500
          omega
        · intro _ g hg
          rcases List.mem_cons.mp hg with rfl | hg
          · exact Nat.le_add_left 1 _
          · exact ok6 g hg
        · rw [← iv.eq]
          show orO (pl cs W fr.ts[jj]) _ = orO .non (contO cs W (fr :: r))
          rw [x1]; rfl
      · rw [show decide ((((fr.j : Nat) : Int)) < ((fr.x.pl.length : Nat) : Int)) = false from decide_eq_false (by omega)]
        refine iteF ?_
        obtain ⟨x1, x2⟩ := no_part (cs := cs) (W := W) (f := fr) (by omega) r
        have eq := iv.eq
        rw [show orO (cmO cs W []) (contO cs W (fr :: r)) = contO cs W (fr :: r) from rfl, x1] at eq
        refine ⟨_, rfl, rfl, _, rfl, ?_⟩
        by_cases ek : fr.x.kd = "plain"
        · refine sT ek ?_
          have dn' := iv.dn
          refine ⟨_, rfl, _, rfl, _, rfl, lo, pn, pp, cs, (fr :: r).reverse, _, rfl, lg1, iv.hn, iv.dn, iv.hp, fun f hf => ?_, by rw [List.length_reverse]; omega, fun f hf => (iv.ok.mem f (List.mem_reverse.mp hf)).2, fun f hf => ?_, fun H2 v2 ns s2 dv => ?_⟩
          · have := (iv.ok.mem f (List.mem_reverse.mp hf)).1
            exact ⟨this, (gd _ this).1⟩
          · rw [List.reverse_cons, List.dropLast_concat] at hf
            exact ok6 f (List.mem_reverse.mp hf)
          · refine ⟨small (by show 2 ≤ _; decide), fun p hp' => q _ _ ((iv.s.trans s2).trans (same_new hp')) ?_⟩
            rw [← eq]
            unfold endO
            rw [if_pos ek]
            exact ⟨ns, Dt.mk2 hp' (.str _) dv⟩
        · refine sF ek ?_
          have ee : endO fr.x = .non := by unfold endO; rw [if_neg ek]
          rw [ee, orO_non] at eq
          refine ⟨_, rfl, .inl ⟨rfl, _, SqL.of iv.hn⟩, pn, _, .ref a, rfl, rfl, iv.hn, by rw [List.length_append]; simp, ?_⟩
          have hp2 : (upd H1 pn (.lst (us ++ [V.ref a]).dropLast)) pp = some (.lst ((r.reverse.map fun f : Fr => V.int (f.j : Nat)) ++ [V.int (fr.j : Nat)])) := by rw [upd_ne n1.symm]; exact hp
          refine ⟨_, rfl, .inl ⟨rfl, _, SqL.of hp2⟩, pp, _, .int (fr.j : Nat), rfl, rfl, hp2, by rw [List.length_append]; simp, ?_⟩
          rw [List.dropLast_concat]
          rw [List.dropLast_concat]
          rw [List.dropLast_concat] at hp2
          refine ⟨muT cs r [], ?_, r, [], us, [], o6, _, _, _, rfl, rfl, Same.upd (Same.upd iv.s f1) f2, ?_, ?_, ?_, ?_, .nil, fun k hk => absurd hk List.not_mem_nil, Nat.zero_le _, fun z => absurd rfl z, ok7, ?_⟩
          · show muS cs r + 0 < (muF cs fr + muS cs r) + 0
            omega
          · rw [upd_ne n1, upd_same]
          · rw [upd_same]
          · rw [upd_ne n3.symm, upd_ne n2.symm]; exact iv.hc
          · exact (du.upd (us := us) iv.hn).upd (us := r.reverse.map fun f : Fr => V.int (f.j : Nat)) hp2
          · rw [← eq]; rfl
end
end PK
namespace PK
open PySem L2
/-! the faults of a row -/
def kx (ps : List Str) (s : Str) : Nat := ps.findIdx fun x => decide (x = s)
theorem kx_at : ∀ {ps : List Str} {i : Nat} {s : Str}, ps.Nodup → ps[i]? = some s → kx ps s = i
  | [], i, s, _, e => by simp at e
  | x :: r, 0, s, _, e => by
    simp at e; subst e
    unfold kx
    rw [List.findIdx_cons, decide_eq_true rfl]; rfl
  | x :: r, i + 1, s, nd, e => by
    rw [List.nodup_cons] at nd
    have e : r[i]? = some s := by simpa using e
    have ne : ¬ x = s := fun z => nd.1 (by rw [z]; exact List.mem_of_getElem? e)
    unfold kx
    rw [List.findIdx_cons, decide_eq_false ne]
    show _ + 1 = i + 1
    rw [show (r.findIdx fun x => decide (x = s)) = i from kx_at nd.2 e]
def gT (ps : List Str) (n : Nat) : Gt := (List.range n).filterMap fun i => (ps[i]?).map fun s => (s, Sy.unk (i : Nat))
theorem gT_snoc {ps : List Str} {n : Nat} {s : Str} (e : ps[n]? = some s) : gT ps (n + 1) = gT ps n ++ [(s, .unk (n : Nat))] := by
  unfold gT
  rw [List.range_succ, List.filterMap_append]
  congr 1
  rw [List.filterMap_cons, e]; rfl
theorem gT_look {ps : List Str} (nd : ps.Nodup) : ∀ {n i : Nat} {s : Str}, n ≤ ps.length → i < n → ps[i]? = some s → lookA (gT ps n) s = some (.unk (i : Nat))
  | 0, i, s, _, h, _ => absurd h (Nat.not_lt_zero _)
  | n + 1, i, s, hn, h, e => by
    have en : ps[n]? = some ps[n] := List.getElem?_eq_getElem (by omega)
    rw [gT_snoc en, lookA_snoc]
    by_cases z : i = n
    · subst z
      rw [en] at e
      rw [if_pos (Option.some.inj e)]
    · have : ps[n] ≠ s := fun y => by
        have h1 : ps[n]? = ps[i]? := by rw [en, e, y]
        exact z ((List.getElem?_inj (by omega) nd).mp h1).symm
      rw [if_neg this]
      exact gT_look nd (by omega) (by omega) e
def wB (known : List Int) (u : Int) : Bool := decide (u ∈ known)
def bx (ps : List Str) (known : List Int) (s : Str) : Bool := decide (((kx ps s : Nat) : Int) ∈ known)
def kI (ps : List Str) (s : Str) : Int := (kx ps s : Nat)
/-- where the image of a row stops, of whose parameters these are values -/
def stop (ds : List Con) (r : Rw) (known : List Int) : Out := ev ds (gO (kI r.ps) (bx r.ps known)) r.t
theorem pl_due {ds : List Con} {ps : List Str} (nd : ps.Nodup) (known : List Int) {t : Tm} (h : tplOk ps t) : pl ds (wB known) (due (gT ps ps.length) t) = ev ds (gO (kI ps) (bx ps known)) t := by
  induction t using Tm.ind with
  | h t ih =>
    have hl := h.at_
    cases t with
    | var s =>
      obtain ⟨i, hi, e⟩ := List.getElem_of_mem (hl.2.1 s rfl)
      have e : ps[i]? = some s := by rw [List.getElem?_eq_getElem hi, e]
      rw [due, gT_look nd (Nat.le_refl _) hi e, ev]
      show pl ds (wB known) (.unk (i : Nat)) = _
      rw [pl]
      unfold gO wB bx kI
      rw [kx_at nd e]
    | node c ts =>
      rw [due_node, pl_node, ev_node, List.map_map]
      congr 1
      exact List.map_congr_left fun k hk => ih k hk (h.kid (show k ∈ (Tm.node c ts).kids from hk))
    | int n => rw [due, pl, ev]
    | name n => rw [due, pl, ev]
    | addr n => rw [due, pl, ev]
    | map es => exact absurd rfl (hl.2.2.2 es)
    | form f ts => exact absurd rfl (hl.2.2.1 f ts)
def ksN (n : Nat) : List Int := (List.range n).map fun i => ((i : Nat) : Int)
theorem ksN_mem {n : Nat} {u : Int} : u ∈ ksN n ↔ 0 ≤ u ∧ u < n := by
  unfold ksN
  rw [List.mem_map]
  exact ⟨fun ⟨i, hi, e⟩ => by rw [List.mem_range] at hi; omega, fun h => ⟨u.toNat, List.mem_range.mpr (by omega), by omega⟩⟩
theorem due_ok {ds : List Con} {ps : List Str} (nd : ps.Nodup) {t : Tm} (h : tplOk ps t) (c : conOk ds t) : SyOk ds (ksN ps.length) (due (gT ps ps.length) t) ∧ (due (gT ps ps.length) t).ht ≤ t.ht ∧ GN (gT ps ps.length) t := by
  induction t using Tm.ind with
  | h t ih =>
    have hl := h.at_
    have hp := t.ht_pos
    have leaf : ∀ {u : Sy}, u.kids = [] → syN ds (ksN ps.length) u → AlS (syN ds (ksN ps.length)) u ∧ u.ht ≤ t.ht := fun {u} e su => by
      have hu := Sy.ht_le (t := u) (n := 0) fun k hk => (by rw [e] at hk; cases hk)
      exact ⟨.mk su fun k hk => (by rw [e] at hk; cases hk), by omega⟩
    cases t with
    | var s =>
      obtain ⟨i, hi, e⟩ := List.getElem_of_mem (hl.2.1 s rfl)
      have e : ps[i]? = some s := by rw [List.getElem?_eq_getElem hi, e]
      have lk := gT_look nd (Nat.le_refl _) hi e
      have ed : due (gT ps ps.length) (.var s) = .unk (i : Nat) := by rw [due, lk]; rfl
      rw [ed]
      obtain ⟨l1, l2⟩ := leaf (u := .unk (i : Nat)) rfl (ksN_mem.mpr (by omega))
      exact ⟨l1, l2, .mk ⟨_, lk⟩ fun k hk => absurd hk List.not_mem_nil⟩
    | node c' ts =>
      rw [due_node]
      obtain ⟨x, hx, e1, e2⟩ := c.at_ c' ts rfl
      refine ⟨.mk ⟨x, hx, e1, by rw [List.length_map]; exact e2.symm⟩ fun k hk => ?_, ?_, .mk ⟨trivial, (by have h10 : (Tm.node c' ts).kids.length ≤ 6 := hl.1; exact Nat.le_trans h10 (by decide))⟩ fun k hk => (ih k hk (h.kid hk) (c.kid hk)).2.2⟩
      · obtain ⟨k', hk', rfl⟩ := List.mem_map.mp (show k ∈ ts.map (due (gT ps ps.length)) from hk)
        have hk2 : k' ∈ (Tm.node c' ts).kids := hk'
        exact (ih k' hk' (h.kid hk2) (c.kid hk2)).1
      · have := Sy.ht_le (t := .node c' (ts.map (due (gT ps ps.length)))) (n := (Tm.node c' ts).ht - 1) fun k hk => by
          obtain ⟨k', hk', rfl⟩ := List.mem_map.mp (show k ∈ ts.map (due (gT ps ps.length)) from hk)
          have hk2 : k' ∈ (Tm.node c' ts).kids := hk'
          have h1 := (ih k' hk' (h.kid hk2) (c.kid hk2)).2.1
          have h2 := Tm.ht_kid hk2
          omega
        omega
    | int n =>
      rw [due]
      obtain ⟨l1, l2⟩ := leaf (u := .sum [] n) rfl trivial
      exact ⟨l1, l2, .mk trivial fun k hk => absurd hk List.not_mem_nil⟩
    | name n =>
      rw [due]
      obtain ⟨l1, l2⟩ := leaf (u := .name n) rfl trivial
      exact ⟨l1, l2, .mk trivial fun k hk => absurd hk List.not_mem_nil⟩
    | addr n =>
      rw [due]
      obtain ⟨l1, l2⟩ := leaf (u := .addr n) rfl trivial
      exact ⟨l1, l2, .mk trivial fun k hk => absurd hk List.not_mem_nil⟩
    | map es => exact absurd rfl (hl.2.2.2 es)
    | form f ts => exact absurd rfl (hl.2.2.1 f ts)
theorem size_fW {ps : List Str} {t : Tm} (h : tplOk ps t) : t.size ≤ 1 + t.tot fW := by
  induction t using Tm.ind with
  | h t ih =>
    have h2 : ∀ l : List Tm, (∀ k ∈ l, k.size ≤ 1 + k.tot fW) → (l.map Tm.size).sum ≤ l.length + (l.map (Tm.tot fW)).sum := fun l => by
      induction l with
      | nil => exact fun _ => Nat.le_refl _
      | cons a r ih2 =>
        intro h
        have h3 := h a List.mem_cons_self
        have h4 := ih2 fun k hk => h k (List.mem_cons_of_mem _ hk)
        rw [List.map_cons, List.map_cons, List.sum_cons, List.sum_cons, List.length_cons]; omega
    have h3 := h2 t.kids fun k hk => ih k hk (h.kid hk)
    rw [Tm.size_eq, Tm.tot_eq]
    have h4 : t.kids.length ≤ fW t := by
      cases t with
      | node c ts => show ts.length ≤ ts.length + 3; omega
      | map es => exact absurd rfl (h.at_.2.2.2 es)
      | form f ts => exact absurd rfl (h.at_.2.2.1 f ts)
      | _ => exact Nat.le_refl _
    omega
/-- the faults as data -/
def plD (nm : Str) (p : Int) : PyData := .tuple [.str "place", .str nm, .int p]
def vaD (nm : Str) : PyData := .tuple [.str "value", .str nm]
def foundP (ds : List Con) (con : Con) (r : Rw) : Nat → List PyData
  | 0 => []
  | i + 1 => foundP ds con r i ++ (match con.pl[i]? with
    | some p => if stop ds r (con.pl.take i) = .blk p then [] else [plD con.nm p]
    | none => [])
def fltD (ds : List Con) (con : Con) (r : Rw) : List PyData := foundP ds con r con.pl.length ++ (if con.kd = "value" ∧ stop ds r con.pl ≠ .non then [vaD con.nm] else [])
theorem foundP_len (ds : List Con) (con : Con) (r : Rw) : ∀ i, (foundP ds con r i).length ≤ i
  | 0 => Nat.le_refl _
  | i + 1 => by
    show (foundP ds con r i ++ _).length ≤ _
    have := foundP_len ds con r i
    rw [List.length_append]
    cases con.pl[i]? with
    | none => show _ + 0 ≤ _; omega
    | some p =>
      show _ + (if stop ds r (con.pl.take i) = .blk p then [] else [plD con.nm p]).length ≤ _
      by_cases z : stop ds r (con.pl.take i) = .blk p
      · rw [if_pos z]; show _ + 0 ≤ _; omega
      · rw [if_neg z]; show _ + 1 ≤ _; omega
theorem isO_ne {K : PySem.W.Frag} {H : Hp} {v : V} {o : Out} (h : isO K H v o) : ∃ d, Dt K H v d ∧ d.canLay0 = true ∧ ∀ p, PyData.eqv d (.tuple [.str "blocked", .int p]) = decide (o = .blk p) := by
  cases o with
  | non =>
    obtain rfl : v = .non := h
    exact ⟨.none, .non, rfl, fun p => by simp [PyData.eqv]⟩
  | blk n =>
    have h : Dt K H v (.tuple [.str "blocked", .int n]) := h
    refine ⟨_, h, lay2 (by show PyData.strOk _ = true; decide +kernel) rfl, fun p => ?_⟩
    simp [PyData.eqv, PyData.eqvAll]
    by_cases e : n = p <;> simp [e]
  | rdx =>
    obtain ⟨ns, h⟩ := h
    refine ⟨_, h, lay2 (by show PyData.strOk _ = true; decide +kernel) (lay_tup fun d hd => ?_), fun p => ?_⟩
    · obtain ⟨n, _, rfl⟩ := List.mem_map.mp hd
      rfl
    · simp [PyData.eqv, PyData.eqvAll]
theorem bl_lay (p : Int) : (PyData.tuple [.str "blocked", .int p]).canLay0 = true := lay2 (by show PyData.strOk _ = true; decide +kernel) rfl
theorem Kn.updL {K : PySem.W.Frag} {C : Addr} {H : Hp} {o : Addr} {m : Int} {ws : List (Key × V)} {dW L : Addr} {xs ys : List V} (h : Kn K C H o m ws dW) (hL : H L = some (.lst xs)) : Kn K C (upd H L (.lst ys)) o m ws dW := by
  obtain ⟨dx, dS, cp, dG, h1, h2, h3, h4, h5, h6⟩ := h.at_
  have ne : ∀ {b : Addr} {u : HO}, H b = some u → (∀ zs, u ≠ .lst zs) → (upd H L (.lst ys)) b = some u := fun e d => by
    rw [upd_ne (fun z => by rw [z, hL] at e; cases e; exact d _ rfl)]; exact e
  exact ⟨dx, dS, cp, dG, ne h1 fun _ => HO.noConfusion, ne h2 fun _ => HO.noConfusion, ne h3 fun _ => HO.noConfusion, seqT_upd h4 hL, ne h5 fun _ => HO.noConfusion, h6⟩
theorem wB_put {ws : List (Key × V)} {kn : List Int} {n : Nat} (h : Wor ws (wB kn) (ksN n)) (p : Int) : Wor (putK ws (.inl p) (.bl true)) (wB (kn ++ [p])) (ksN n) := fun u hu => by
  rw [valV_put]
  by_cases e : u = p
  · subst e
    rw [if_pos rfl]
    unfold wB
    rw [decide_eq_true (by simp)]
  · rw [if_neg (fun z => e (Sum.inl.inj z)), h u hu]
    unfold wB
    have : (u ∈ kn) = (u ∈ kn ++ [p]) := by simp [e]
    simp only [this]
theorem take_snoc {α : Type} {l : List α} {i : Nat} {p : α} (h : l[i]? = some p) : l.take (i + 1) = l.take i ++ [p] := by
  rw [List.take_add_one, h]; rfl
theorem isO_ref {K : PySem.W.Frag} {H : Hp} {v : V} {o : Out} (h : isO K H v o) (ne : o ≠ .non) : decide (v = V.non) = false := by
  cases o with
  | non => exact absurd rfl ne
  | blk n =>
    have h : Dt K H v (.tuple [.str "blocked", .int n]) := h
    obtain ⟨a, xs, rfl, _⟩ := Dt.tn h
    rfl
  | rdx =>
    obtain ⟨ns, h⟩ := h
    obtain ⟨a, xs, rfl, _⟩ := Dt.tn h
    rfl
theorem foundP_succ {ds : List Con} {con : Con} {r : Rw} {i : Nat} {p : Int} (e : con.pl[i]? = some p) : foundP ds con r (i + 1) = foundP ds con r i ++ (if stop ds r (con.pl.take i) = .blk p then [] else [plD con.nm p]) := by
  show foundP ds con r i ++ (match con.pl[i]? with | some p => if stop ds r (con.pl.take i) = .blk p then [] else [plD con.nm p] | none => []) = _
  rw [e]
/-- the faults of a pass as data -/
def allD (ds : List Con) : List Con → List Rw → List PyData
  | c :: cs, r :: R => fltD ds c r ++ allD ds cs R
  | _, _ => []
theorem allD_snoc {ds : List Con} : ∀ {cs : List Con} {R : List Rw} {i : Nat} {c : Con} {r : Rw}, cs[i]? = some c → R[i]? = some r → allD ds (cs.take (i + 1)) (R.take (i + 1)) = allD ds (cs.take i) (R.take i) ++ fltD ds c r
  | [], _, i, _, _, h, _ => by simp at h
  | _ :: _, [], i, _, _, _, h => by simp at h
  | c0 :: cs, r0 :: R, 0, c, r, h1, h2 => by
    simp at h1 h2
    subst h1; subst h2
    show fltD ds c0 r0 ++ allD ds (cs.take 0) (R.take 0) = [] ++ _
    rw [List.take_zero]; show fltD ds c0 r0 ++ [] = _; rw [List.append_nil]; rfl
  | c0 :: cs, r0 :: R, i + 1, c, r, h1, h2 => by
    show fltD ds c0 r0 ++ allD ds (cs.take (i + 1)) (R.take (i + 1)) = (fltD ds c0 r0 ++ allD ds (cs.take i) (R.take i)) ++ _
    rw [allD_snoc (cs := cs) (R := R) (i := i) (by simpa using h1) (by simpa using h2), List.append_assoc]
theorem fltD_len (ds : List Con) (con : Con) (r : Rw) : (fltD ds con r).length ≤ con.pl.length + 1 := by
  have := foundP_len ds con r con.pl.length
  unfold fltD
  rw [List.length_append]
  by_cases z : con.kd = "value" ∧ stop ds r con.pl ≠ .non
  · rw [if_pos z]; show _ + 1 ≤ _; omega
  · rw [if_neg z]; show _ + 0 ≤ _; omega
def spFlt (K : PySem.W.Frag) (CL : Addr) : Sp := fun vs H Q _ => ∃ (so lo rp : Addr) (cs ds : List Con) (R : List Rw), vs = [.ref so, .ref lo, .ref rp] ∧ Lng K CL H so cs ∧ Lng K CL H lo ds ∧ (ds.map Con.nm).Nodup ∧ (∀ x ∈ ds, x.fit ∧ x.ar ≤ 6) ∧ (∀ x ∈ cs, x.fit ∧ x.ar ≤ 6) ∧ cs.length ≤ 7 ∧ Dt K H (.ref rp) (.tuple (R.map Rw.d)) ∧ R.map (fun r => (r.nm, r.ps.length)) = cs.map (fun x => (x.nm, x.ar)) ∧ (∀ r ∈ R, rwOk r) ∧ (∀ r ∈ R, rwM ds r) ∧
  ∀ (H' : Hp) (l : Addr) (xs : List V), Same H H' → H l = none → H' l = some (.lst xs) → DtAll K H' xs (allD ds cs R) → Q (.ref l) H'
def spFof (K : PySem.W.Frag) (CL : Addr) : Sp := fun vs H Q _ => ∃ (lo : Addr) (ds : List Con) (con : Con) (r : Rw) (cv rv : V), vs = [.ref lo, cv, rv] ∧ Lng K CL H lo ds ∧ (ds.map Con.nm).Nodup ∧ (∀ x ∈ ds, x.fit ∧ x.ar ≤ 6) ∧ Dt K H cv con.d ∧ con.fit ∧ con.ar ≤ 6 ∧ Dt K H rv r.d ∧ r.ps.length = con.ar ∧ rwOk r ∧ rwM ds r ∧
  ∀ (H' : Hp) (l : Addr) (xs : List V), Same H H' → H' l = some (.lst xs) → DtAll K H' xs (fltD ds con r) → Q (.ref l) H'
section
variable {P : Program} {w : World} {K : PySem.W.Frag} {mg : Str → Option Value} {base : Heap} {aF aR CL CK : Addr}
abbrev s_faults_of : Stmt := topS 43
theorem sc_faults_of : FnScope ["target", "constructor", "row", "name", "many", "kind", "strict", "_", "parameters", "template", "known", "unknowns", "u", "image", "found", "place", "word"] ["target", "constructor", "row"] (defScope s_faults_of) := ⟨rfl, rfl, rfl, by decide +kernel, rfl, by decide +kernel, by decide +kernel⟩
-- slots: 0:target 1:constructor 2:row 3:name 4:many 5:kind 6:strict 7:_ 8:parameters 9:template 10:known 11:unknowns 12:u 13:image 14:found 15:place 16:word(comp)
theorem ok_fof {f : Addr} {fd : FuncData} (F : Fun K "_faults_of" "_faults_of" s_faults_of f fd) (T : TxtP K mg aF aR) (X : KTx K CK) (MK : CalC P w K mg base 1 "Knowledge" CK (spKInit K CK)) (M_fresh : CalQ P w K mg base 4 CK "fresh" (spFresh K CK)) (M_with : CalQ P w K mg base 4 CK "with_worth" (spWith K CK)) (C_symbolic : C8.Cal P w K mg base 6 "symbolic" (spSym K) []) (C_place_of : C8.Cal P w K mg base 3 "place_of" (spPlace K CL CK) []) :
    FnOk P w K mg base CX0 7 f fd ["target", "constructor", "row"] (spFof K CL) := by
  refine F.ok sc_faults_of (fun vs H Q E h => ?_) (fun cdv A outer s H vs Q E hr h => ?_)
  · obtain ⟨_, _, _, _, _, _, rfl, _⟩ := h
    rfl
  obtain ⟨lo, ds, con, r, cv, rv, rfl, lg, nd, gd, dcv, gc, ga, drv, lps, ro, rm, q⟩ := h
  refine ⟨_, (pss_cons (ps_asg (pv 1) (pg_tup (by rfl) (pgs_cons (pg_name (i := 3) sc_faults_of.nd rfl (Or.inl rfl)) (pgs_cons (pg_name (i := 4) sc_faults_of.nd rfl (Or.inl rfl)) (pgs_cons (pg_name (i := 5) sc_faults_of.nd rfl (Or.inl rfl)) (pgs_cons (pg_name (i := 6) sc_faults_of.nd rfl (Or.inl rfl)) pgs_nil))))))
    (pss_cons (ps_asg (pv 2) (pg_tup (by rfl) (pgs_cons (pg_name (i := 7) sc_faults_of.nd rfl (Or.inl rfl)) (pgs_cons (pg_name (i := 8) sc_faults_of.nd rfl (Or.inl rfl)) (pgs_cons (pg_name (i := 9) sc_faults_of.nd rfl (Or.inl rfl)) pgs_nil)))))
    (pss_cons (ps_asg (pe_me M_fresh hr (by decide) (pe_mk0 MK hr (by decide) rfl) (pa_cons (pv 4) pa_nil)) (pg_tup (by rfl) (pgs_cons (pg_name (i := 10) sc_faults_of.nd rfl (Or.inl rfl)) (pgs_cons (pg_name (i := 11) sc_faults_of.nd rfl (Or.inl rfl)) pgs_nil))))
    (pss_cons (ps_for PassesOwn.never rfl (pi_list (pv 11)) (pg_name (i := 12) sc_faults_of.nd rfl (Or.inl rfl)) (pss_one (ps_set (i := 10) sc_faults_of.nd rfl (Or.inl rfl) (pe_me M_with hr (by decide) (pv 10) (pa_cons (pv 12) (pa_cons pe_bl pa_nil))))))
    (pss_cons (ps_set (i := 13) sc_faults_of.nd rfl (Or.inl rfl) (C8.pe_c C_symbolic hr (by decide) rfl (pa_cons (pv 9) (pa_cons (pe_dc (own := [("u", 12), ("word", 16)]) (g := (gTup K 2 (gCons (gName 12) (gCons (gName 16) gNil)))) (tt := tYes) (by rfl) sc_faults_of.nd (PKR.pi_or (pi_enum (by rfl) T.z_enumerate (pa_cons (pv 8) pa_nil)) (PKR.pi_enumT (by rfl) T.z_enumerate (pa_cons (pv 8) pa_nil))) (blkOk_by (N := ["target", "constructor", "row", "name", "many", "kind", "strict", "_", "parameters", "template", "known", "unknowns", "u", "image", "found", "place", "word"]) (sc := defScope s_faults_of) (by decide +kernel)) (fun _ _ _ _ _ => (pg_tup (by rfl) (pgs_cons (pg_name (i := 12) sc_faults_of.nd rfl (Or.inl rfl)) (pgs_cons (pg_name (i := 16) sc_faults_of.nd rfl (Or.inl rfl)) pgs_nil)))) (fun _ _ _ _ _ => pts_nil) (fun _ _ _ _ _ => (pv 16)) (fun _ _ _ _ _ => (pe_tup (pa_cons pe_str (pa_cons (pv 12) pa_nil))))) pa_nil))))
    (pss_cons (ps_set (i := 14) sc_faults_of.nd rfl (Or.inl rfl) (pe_lst pa_nil))
    (pss_cons (ps_for PassesOwn.never rfl (pi_tup (pv 6)) (pg_name (i := 15) sc_faults_of.nd rfl (Or.inl rfl)) (C8.pss_cut (ps_if (pt_cmpR (PKE.op_neN (n := 190) (eqU hr)) (C8.pe_c C_place_of hr (by decide) rfl (pa_cons (pv 0) (pa_cons (pv 10) (pa_cons (pv 13) pa_nil)))) (pe_tup (pa_cons pe_str (pa_cons (pv 15) pa_nil))) (nomark _)) (pss_one (ps_expr (pe_bm PySem.F.plainAttrs_list PySem.F.slot_list_append PySem.F.type_list_append mt_append (pv 14) (pa_cons (pe_tup (pa_cons pe_str (pa_cons (pv 3) (pa_cons (pv 15) pa_nil)))) pa_nil)))) pss_nil)
    (pss_one (ps_set (i := 10) sc_faults_of.nd rfl (Or.inl rfl) (pe_me M_with hr (by decide) (pv 10) (pa_cons (pv 15) (pa_cons pe_bl pa_nil)))))))
    (pss_cons (ps_if (PW.pt (pw_and (pt_cmpR op_eq (pv 5) pe_str (nomark _)) (pw_and1 (pt_cmpR op_notN (C8.pe_c C_place_of hr (by decide) rfl (pa_cons (pv 0) (pa_cons (pv 10) (pa_cons (pv 13) pa_nil)))) pe_non (nomark _))))) (pss_one (ps_expr (pe_bm PySem.F.plainAttrs_list PySem.F.slot_list_append PySem.F.type_list_append mt_append (pv 14) (pa_cons (pe_tup (pa_cons pe_str (pa_cons (pv 3) pa_nil))) pa_nil)))) pss_nil)
    (pss_one (ps_ret (pv 14))))))))))), ?_⟩
  obtain ⟨a1, b1, rfl, hs1, hb1⟩ := Con.get4 dcv
  unfold Rw.d at drv
  obtain ⟨a2, x2, y2, z2, rfl, hs2, g1, g2, g3⟩ := Dt.t3 drv
  obtain rfl := g1.s
  obtain ⟨b2, ys, rfl, hb2, hys⟩ := Dt.tn g2
  rw [hys.strsE] at hb2
  refine ⟨_, rfl, a1, _, rfl, hs1, rfl, _, _, rfl, _, _, rfl, _, _, rfl, _, _, rfl, rfl, ?_⟩
  refine ⟨_, rfl, a2, _, rfl, hs2, rfl, _, _, rfl, _, _, rfl, _, _, rfl, rfl, ?_⟩
  refine fun o0 dx0 ho0 hdx0 ne0 => ⟨o0, dx0, rfl, upd_same, fun HA dW0 kpA knA => ⟨rfl, ?_⟩⟩
  have sA : Same H HA := fun b u hb => by
    have n1 : b ≠ o0 := fun z => by rw [z, ho0] at hb; cases hb
    have n2 : b ≠ dx0 := fun z => by rw [z, hdx0] at hb; cases hb
    exact kpA _ _ n1 (by rw [upd_ne n1, upd_ne n2]; exact hb)
  have knA' := knA
  obtain ⟨dxA, eS, ecp, eG, hA1, _⟩ := knA'.at_
  refine ⟨o0, dxA, _, rfl, hA1, rfl, _, rfl, o0, dW0, con.ar, [], rfl, knA, by omega, fun H1 at_ o1 l1 dW1 s1 ha1 hl1 kn1 => ?_⟩
  refine ⟨at_, _, rfl, ha1, rfl, _, _, rfl, _, _, rfl, rfl, ?_⟩
  have s01 := sA.trans s1
  clear kpA knA knA' hA1 ho0 hdx0 ne0
  refine ⟨_, rfl, l1, rfl, ⟨_, SqL.of hl1⟩, for_it (walk_list (K := K) (xs := (List.range con.ar).map fun i => V.int (i : Nat))) (fun i σ H' => ∃ (o dW : Addr) (ws : List (Key × V)) (o12 : Option V), σ = [some (.ref lo), some (.ref a1), some (.ref a2), some (.str con.nm), some (.int (con.ar : Nat)), some (.str con.kd), some (.ref b1), some (.str r.nm), some (.ref b2), some z2, some (.ref o), some (.ref l1), o12, none, none, none, none] ∧ Same H1 H' ∧ Kn K CK H' o (con.ar : Nat) ws dW ∧ ws.length ≤ i ∧ ∀ j : Nat, j < i → valV ws (.inl (j : Nat)) = some (.bl false)) ?_ ?_ ?_ ?_⟩
  · exact ⟨o1, dW1, [], _, rfl, Same.refl _, kn1, Nat.zero_le _, fun j hj => absurd hj (Nat.not_lt_zero _)⟩
  · rintro i σ H' _ ⟨_, _, _, _, _, s, _⟩
    exact SqL.of (s _ _ hl1)
  · rintro i x σ H2 H2 hi ⟨o, dW, ws, o12, rfl, s2, kn, lw, vw⟩ ⟨rfl, gx⟩
    rw [List.length_map, List.length_range] at hi
    rw [List.getElem?_map, List.getElem?_range hi] at gx
    cases gx
    have kn' := kn
    obtain ⟨dx2, eS2, ecp2, eG2, h21, _⟩ := kn'.at_
    refine ⟨_, rfl, o, dx2, _, rfl, h21, rfl, _, rfl, o, dW, _, (i : Nat), false, ws, rfl, kn, by omega, fun H3 o3 dW3 s3 ho3 kn3 => ?_⟩
    refine ⟨o3, dW3, _, _, rfl, s2.trans s3, kn3, ?_, fun j hj => ?_⟩
    · have := length_putK ws (.inl ((i : Nat) : Int)) (V.bl false); omega
    · rw [valV_put]
      by_cases e : j = i
      · subst e; rw [if_pos rfl]
      · rw [if_neg (fun z => e (by have := Sum.inl.inj z; omega))]
        exact vw j (by omega)
  rintro σ H2 ⟨o, dW, ws, o12, rfl, s2, kn, lw, vw⟩
  rw [List.length_map, List.length_range] at lw vw
  have s02 := s01.trans s2
  refine ⟨_, rfl, .inr ⟨_, rfl, b2, _, rfl, Same.seqT s02 hb2, fun D hD => it_W (walk_enumT (K := K) (a := b2) (xs := r.ps.map V.str)) _ (fun i H' => ∃ kvs, Same H2 H' ∧ H' D = some (.dK kvs) ∧ kvs.length ≤ i ∧ BindS K H' kvs (gT r.ps i)) ?_ ?_ ?_ ?_⟩⟩
  · exact ⟨[], same_new hD, upd_same, Nat.zero_le _, fun s t e => by cases e⟩
  · rintro i H' _ ⟨_, s, _⟩
    exact Same.seqT (s02.trans s) hb2
  · rintro i x H3 H4 hi ⟨kvs, s3, hd3, lk, bs⟩ ⟨T, a, b, rfl, hT, rfl, ea, eb⟩
    cases ea
    have eb : (r.ps.map V.str)[i]? = some b := eb
    rw [List.getElem?_map] at eb
    cases e0 : r.ps[i]? with
    | none => rw [e0] at eb; cases eb
    | some s =>
    rw [e0] at eb
    cases eb
    have il : i < r.ps.length := (List.getElem?_eq_some_iff.mp e0).1
    refine ⟨T, _, rfl, SqT.of upd_same, rfl, _, _, rfl, _, _, rfl, rfl, rfl, yes_ ⟨_, rfl, _, rfl, small (by show 2 ≤ _; decide), fun p hp => ?_⟩⟩
    have s4 := same_new (o := .tup [.int (i : Nat), .str s]) hT
    have s5 := s4.trans (same_new (o := .tup [.str "unknown", .int (i : Nat)]) hp)
    have hd5 := s5 _ _ hd3
    refine ⟨kvs, .inr s, rfl, hd5, smallL (by omega), _, Same.upd (s3.trans s5) hD, upd_same, by have := length_putK kvs (.inr s) (V.ref p); omega, ?_⟩
    rw [gT_snoc e0]
    intro s' t' e'
    rw [lookA_snoc] at e'
    rw [valV_put]
    by_cases z : s = s'
    · subst z
      rw [if_pos rfl] at e' ⊢
      cases e'
      refine ⟨_, rfl, Dt.mono (fun _ _ z => seqT_updK z hd5) _ _ ?_⟩
      unfold Sy.d
      exact Dt.mk2 hp (.str _) (.int _)
    · rw [if_neg z] at e'
      rw [if_neg (fun y => z (Sum.inr.inj y).symm)]
      obtain ⟨u, e1, e2⟩ := bs s' t' e'
      exact ⟨u, e1, Dt.mono (fun _ _ z => seqT_updK z hd5) _ _ (e2.same s5)⟩
  rintro H3 ⟨kvs, s3, hd3, lk, bs⟩
  rw [List.length_map] at bs
  have s03 := s02.trans s3
  obtain ⟨ok1, ok2, ok3⟩ := due_ok rm.2.2.1 ro.1 rm.1
  have hsz := size_fW ro.1
  have hfw := rm.2.1.w
  refine ⟨z2, r.t, D, kvs, _, rfl, g3.same s03, hd3, bs, ok3, by omega, fun H4 iv s4 div => ?_⟩
  have s04 := s03.trans s4
  refine ⟨Nat.zero_le _, fun L hL => ?_⟩
  have fL : H L = none := s04.free hL
  have hL5 : (upd H4 L (.lst [])) L = some (.lst []) := upd_same
  have s45 := same_new (o := .lst []) hL
  have wor0 : Wor ws (wB []) (ksN con.ar) := fun u hu => by
    obtain ⟨u0, u1⟩ := ksN_mem.mp hu
    have := vw u.toNat (by omega)
    rw [show ((u.toNat : Nat) : Int) = u by omega] at this
    rw [this]; rfl
  have s24 := s3.trans s4
  have lw6 : ws.length ≤ 6 := by omega
  have kn5 : Kn K CK (upd H4 L (.lst [])) o (con.ar : Nat) ws dW := kn.same (s24.trans s45)
  have pleq : ∀ known, pl ds (wB known) (due (gT r.ps r.ps.length) r.t) = stop ds r known := fun known => pl_due rm.2.2.1 known ro.1
  have dht : (due (gT r.ps r.ps.length) r.t).ht ≤ 500 := by have := ro.2.1; omega
  have ok1 : SyOk ds (ksN con.ar) (due (gT r.ps r.ps.length) r.t) := by rw [← lps]; exact ok1
  refine ⟨_, rfl, b1, rfl, ⟨_, Same.seqT (s04.trans s45) hb1⟩, for_it (walk_tup (K := K) (xs := con.pl.map V.int)) (fun i σ H' => ∃ (o dW : Addr) (ws : List (Key × V)) (xs : List V) (o15 : Option V), σ = [some (.ref lo), some (.ref a1), some (.ref a2), some (.str con.nm), some (.int (con.ar : Nat)), some (.str con.kd), some (.ref b1), some (.str r.nm), some (.ref b2), some z2, some (.ref o), some (.ref l1), o12, some iv, some (.ref L), o15, none] ∧ Same H4 H' ∧ Kn K CK H' o (con.ar : Nat) ws dW ∧ Wor ws (wB (con.pl.take i)) (ksN con.ar) ∧ ws.length ≤ 6 + i ∧ H' L = some (.lst xs) ∧ DtAll K H' xs (foundP ds con r i)) ?_ ?_ ?_ ?_⟩
  · exact ⟨o, dW, ws, [], _, rfl, s45, kn5, wor0, lw6, hL5, .nil⟩
  · rintro i σ H' _ ⟨_, _, _, _, _, _, s, _⟩
    exact Same.seqT (s04.trans s) hb1
  · rintro i x σ H5 H5 hi ⟨o, dW, ws, xs, o15, rfl, s5, kn, wor, lw, hL', dxs⟩ ⟨rfl, gx⟩
    rw [List.length_map] at hi
    rw [List.getElem?_map] at gx
    cases e0 : con.pl[i]? with
    | none => rw [e0] at gx; cases gx
    | some p =>
    rw [e0] at gx
    cases gx
    have lxs : xs.length ≤ i := by rw [dxs.lenD]; exact foundP_len ds con r i
    have lpl := gc.pl.2.2
    refine ⟨fun σ H' => ∃ xs, σ = [some (.ref lo), some (.ref a1), some (.ref a2), some (.str con.nm), some (.int (con.ar : Nat)), some (.str con.kd), some (.ref b1), some (.str r.nm), some (.ref b2), some z2, some (.ref o), some (.ref l1), o12, some iv, some (.ref L), some (.int p), none] ∧ Same H4 H' ∧ Kn K CK H' o (con.ar : Nat) ws dW ∧ H' L = some (.lst xs) ∧ DtAll K H' xs (foundP ds con r (i + 1)), ?_, ?_⟩
    · refine ⟨_, rfl, _, rfl, _, rfl, lo, o, dW, _, ws, wB (con.pl.take i), ksN con.ar, ds, iv, _, rfl, lg.same (s04.trans s5), nd, gd, kn, wor, div.same s5, ok1, dht, fun H6 v6 s6 io => ?_⟩
      rw [pleq] at io
      obtain ⟨d6, dd6, lay6, eq6⟩ := isO_ne io
      refine ⟨_, rfl, small (by show 2 ≤ _; decide), fun p7 hp7 => ?_⟩
      have s7 := same_new (o := .tup [.str "blocked", .int p]) hp7
      have s67 := s6.trans s7
      refine ⟨d6, _, (dd6.same s7).dp, (Dt.mk2 (x := .str "blocked") (y := .int p) (d := .str "blocked") (e := .int p) hp7 (.str _) (.int _)).dp, lay6, bl_lay p, .inr (by show max 0 (max 0 0) + 1 ≤ 190; omega), _, rfl, ?_⟩
      rw [eq6]
      have s47 := s5.trans s67
      have hL7 := s67 _ _ hL'
      have kn7 := kn.same s67
      have dx7 := dxs.same s67
      rw [foundP_succ e0]
      by_cases z : stop ds r (con.pl.take i) = .blk p
      · rw [decide_eq_true z, if_pos z, List.append_nil]
        exact iteF ⟨xs, rfl, s47, kn7, hL7, dx7⟩
      · rw [decide_eq_false z, if_neg z]
        refine iteT ⟨_, rfl, .inl ⟨rfl, _, SqL.of hL7⟩, _, rfl, _, rfl, small (by show 3 ≤ _; decide), fun p8 hp8 => ?_⟩
        have s8 := same_new (o := .tup [.str "place", .str con.nm, .int p]) hp8
        refine ⟨L, xs, _, rfl, rfl, s8 _ _ hL7, smallL (by omega), xs ++ [.ref p8], rfl, Same.upd (s47.trans s8) hL, (kn7.same s8).updL (s8 _ _ hL7), upd_same, ?_⟩
        exact ((dx7.same s8).append (.cons (Dt.mk3 (d := .str "place") (e := .str con.nm) (f := .int p) hp8 (.str _) (.str _) (.int _)) .nil)).upd (s8 _ _ hL7)
    · rintro σ H6 ⟨xs, rfl, s6, kn6, hL6, dx6⟩
      have kn' := kn6
      obtain ⟨dx2, eS2, ecp2, eG2, h21, _⟩ := kn'.at_
      refine ⟨_, rfl, o, dx2, _, rfl, h21, rfl, _, rfl, o, dW, _, p, true, ws, rfl, kn6, by omega, fun H7 o7 dW7 s7 ho7 kn7 => ⟨o7, dW7, _, xs, _, rfl, s6.trans s7, kn7, ?_, ?_, s7 _ _ hL6, dx6.same s7⟩⟩
      · rw [take_snoc e0]
        exact wB_put wor p
      · have := length_putK ws (.inl p) (V.bl true); omega
  rintro σ H5 ⟨o, dW, ws, xs, o15, rfl, s5, kn, wor, lw, hL', dxs⟩
  rw [List.length_map] at wor dxs lw
  rw [List.take_length] at wor
  have lxs : xs.length ≤ con.pl.length := by rw [dxs.lenD]; exact foundP_len ds con r _
  have lpl := gc.pl.2.2
  refine ⟨_, rfl, rfl, _, rfl, ?_⟩
  by_cases ek : con.kd = "value"
  · refine sT ek ⟨_, rfl, _, rfl, _, rfl, lo, o, dW, _, ws, wB con.pl, ksN con.ar, ds, iv, _, rfl, lg.same (s04.trans s5), nd, gd, kn, wor, div.same s5, ok1, dht, fun H6 v6 s6 io => ⟨rfl, _, rfl, ?_⟩⟩
    rw [pleq] at io
    have hL6 := s6 _ _ hL'
    have s06 := (s04.trans s5).trans s6
    by_cases z : stop ds r con.pl = .non
    · rw [z] at io
      obtain rfl : v6 = .non := io
      refine iteF ⟨_, rfl, q H6 L xs s06 hL6 ?_⟩
      have : fltD ds con r = foundP ds con r con.pl.length := by
        unfold fltD
        rw [if_neg (fun y => y.2 z), List.append_nil]
      rw [this]
      exact dxs.same s6
    · rw [isO_ref io z]
      refine iteT ⟨_, rfl, .inl ⟨rfl, _, SqL.of hL6⟩, _, rfl, small (by show 2 ≤ _; decide), fun p8 hp8 => ?_⟩
      have s8 := same_new (o := .tup [.str "value", .str con.nm]) hp8
      refine ⟨L, xs, _, rfl, rfl, s8 _ _ hL6, smallL (by omega), _, rfl, q _ L (xs ++ [.ref p8]) (Same.upd (s06.trans s8) fL) upd_same ?_⟩
      have : fltD ds con r = foundP ds con r con.pl.length ++ [vaD con.nm] := by
        unfold fltD
        rw [if_pos ⟨ek, z⟩]
      rw [this]
      exact (((dxs.same s6).same s8).append (.cons (Dt.mk2 (d := .str "value") (e := .str con.nm) hp8 (.str _) (.str _)) .nil)).upd (s8 _ _ hL6)
  · refine sF ek (iteF ⟨_, rfl, q H5 L xs (s04.trans s5) hL' ?_⟩)
    have : fltD ds con r = foundP ds con r con.pl.length := by
      unfold fltD
      rw [if_neg (fun y => ek y.1), List.append_nil]
    rw [this]
    exact dxs
abbrev s_faults : Stmt := topS 42
theorem sc_faults : FnScope ["source", "target", "rows", "found", "constructor", "row"] ["source", "target", "rows"] (defScope s_faults) := ⟨rfl, rfl, rfl, by decide +kernel, rfl, by decide +kernel, by decide +kernel⟩
-- slots: 0:source 1:target 2:rows 3:found 4:constructor 5:row
theorem ok_flt {f : Addr} {fd : FuncData} (F : Fun K "faults" "faults" s_faults f fd) (T : TxtZ K mg aR) (X : LTx K CL) (C_faults_of : C8.Cal P w K mg base 7 "_faults_of" (spFof K CL) []) :
    FnOk P w K mg base CX0 8 f fd ["source", "target", "rows"] (spFlt K CL) := by
  refine F.ok sc_faults (fun vs H Q E h => ?_) (fun cdv A outer s H vs Q E hr h => ?_)
  · obtain ⟨_, _, _, _, _, _, rfl, _⟩ := h
    rfl
  obtain ⟨so, lo, rp, cs, ds, R, rfl, ls, lg, nd, gd, gs, lc, dR, eR, oR, mR, q⟩ := h
  refine ⟨_, (pss_cons (ps_set (i := 3) sc_faults.nd rfl (Or.inl rfl) (pe_lst pa_nil))
    (pss_cons (ps_for PassesOwn.never rfl (PKZ.pi_zipP (by rfl) T.z_zip (pa_cons (pe_fld (pv 0) rfl) (pa_cons (pv 2) pa_nil))) (pg_tup (by rfl) (pgs_cons (pg_name (i := 4) sc_faults.nd rfl (Or.inl rfl)) (pgs_cons (pg_name (i := 5) sc_faults.nd rfl (Or.inl rfl)) pgs_nil))) (pss_one (ps_expr (pe_bm PySem.F.plainAttrs_list PySem.F.slot_list_extend PySem.F.type_list_extend mt_extend (pv 3) (pa_cons (C8.pe_c C_faults_of hr (by decide) rfl (pa_cons (pv 1) (pa_cons (pv 4) (pa_cons (pv 5) pa_nil)))) pa_nil)))))
    (pss_one (ps_ret (pv 3))))), ?_⟩
  obtain ⟨a2, rv, e2, hrp, drv⟩ := Dt.tn dR
  cases e2
  have lR : R.length = cs.length := by have := congrArg List.length eR; rw [List.length_map, List.length_map] at this; exact this
  have lrv : rv.length = R.length := by rw [drv.lenD, List.length_map]
  refine ⟨Nat.zero_le _, fun L hL => ?_⟩
  have s1 := same_new (o := .lst []) hL
  obtain ⟨dx, cp, dT, ru, kvs, l1, l2, l3, l4⟩ := ls.at_
  obtain ⟨a3, cv, e3, hcp, dcv⟩ := Dt.tn l2
  cases e3
  have lcv : cv.length = cs.length := by rw [dcv.lenD, List.length_map]
  refine ⟨_, rfl, so, CL, dx, _, _, rfl, s1 _ _ l1, X.cl, X.nC, rfl, _, rfl, .t, .t, cp, rp, cv, rv, rfl, Same.seqT s1 hcp, Same.seqT s1 hrp, for_it (PKZ.walk_zipP (n := cs.length) (by omega)) (fun i σ H' => ∃ (xs : List V) (o4 o5 : Option V), σ = [some (.ref so), some (.ref lo), some (.ref rp), some (.ref L), o4, o5] ∧ Same H H' ∧ H' L = some (.lst xs) ∧ DtAll K H' xs (allD ds (cs.take i) (R.take i)) ∧ xs.length ≤ 7 * i) ?_ ?_ ?_ ?_⟩
  · exact ⟨[], _, _, rfl, s1, upd_same, by rw [List.take_zero]; exact .nil, Nat.zero_le _⟩
  · rintro i σ H' _ ⟨_, _, _, _, s, _⟩
    exact ⟨Same.seqT s hcp, Same.seqT s hrp⟩
  · rintro i x σ H2 H3 hi ⟨xs, o4, o5, rfl, s2, hL2, dxs, lxs⟩ ⟨T, a, b, rfl, hT, rfl, ea, eb⟩
    have ea : cv[i]? = some a := ea
    have eb : rv[i]? = some b := eb
    obtain ⟨da, ga, dda⟩ := dcv.getX ea
    obtain ⟨db, gb, ddb⟩ := drv.getX eb
    rw [List.getElem?_map] at ga gb
    cases e0 : cs[i]? with
    | none => rw [e0] at ga; cases ga
    | some con =>
    cases e1 : R[i]? with
    | none => rw [e1] at gb; cases gb
    | some r =>
    rw [e0] at ga
    rw [e1] at gb
    cases ga; cases gb
    have hcon := List.mem_of_getElem? e0
    have hr1 := List.mem_of_getElem? e1
    obtain ⟨gc, gA⟩ := gs con hcon
    have eps : r.ps.length = con.ar := by
      have z := congrArg (fun l => l[i]?) eR
      simp only [List.getElem?_map, e0, e1, Option.map_some] at z
      exact (Prod.mk.inj (Option.some.inj z)).2
    have s3 := same_new (o := .tup [a, b]) hT
    have s23 := s2.trans s3
    refine ⟨T, _, rfl, SqT.of upd_same, rfl, _, _, rfl, _, _, rfl, rfl, ?_⟩
    refine ⟨_, rfl, .inl ⟨rfl, _, SqL.of (s3 _ _ hL2)⟩, _, rfl, _, rfl, _, rfl, lo, ds, con, r, a, b, rfl, lg.same s23, nd, gd, dda.same s23, gc, gA, ddb.same s23, eps, oR r hr1, mR r hr1, fun H4 l ys s4 hl4 dys => ?_⟩
    have lys : ys.length ≤ 7 := by
      have := fltD_len ds con r
      have := gc.pl.2.2
      rw [dys.lenD]; omega
    have hL4 := s4 _ _ (s3 _ _ hL2)
    refine ⟨L, l, xs, ys, rfl, rfl, hL4, hl4, Nat.le_of_lt (smallL (by omega)), xs ++ ys, _, _, rfl, Same.upd (s23.trans s4) hL, upd_same, ?_, by rw [List.length_append]; omega⟩
    rw [allD_snoc e0 e1]
    exact (((dxs.same s3).same s4).append dys).upd hL4
  rintro σ H2 ⟨xs, o4, o5, rfl, s2, hL2, dxs, lxs⟩
  rw [List.take_length, ← lR, List.take_length] at dxs
  exact ⟨_, rfl, q H2 L xs s2 hL hL2 dxs⟩
end
end PK
namespace PK
open PySem L2 PyProof.Rows
/-! what a row of a pass must be -/
structure TxtL (K : PySem.W.Frag) (mg : Str → Option Value) (aF aR aL : Addr) : Prop extends TxtP K mg aF aR where
  g_LV : mg "LEAVES_passes" = some (.ref aL)
  lv : ∀ H, SqT K H aL [.str "int", .str "name", .str "addr", .str "meta"]
abbrev SLe (a b : Str) : Prop := a.cps.toList ≤ b.cps.toList
theorem sle_trans {a b c : Str} (h : SLe a b) (g : SLe b c) : SLe a c := List.le_trans h g
theorem sle_total (a b : Str) : SLe a b ∨ SLe b a := List.le_total _ _
theorem sle_anti {a b : Str} (h : SLe a b) (g : SLe b a) : a = b := Str.ext' (Array.toList_inj.mp (List.le_antisymm h g))
theorem rising_pw : ∀ (l : List Str) (p : Str), risingS p l = true → (p :: l).Pairwise SLe
  | [], p, _ => by simp
  | x :: r, p, h => by
    unfold risingS at h
    rw [PyProof.Rows.ltCps_eq] at h
    obtain ⟨h1, h2⟩ := Bool.and_eq_true_iff.mp h
    have ih := rising_pw r x h2
    have px : SLe p x := fun z => by rw [decide_eq_true z] at h1; cases h1
    refine List.Pairwise.cons (fun y hy => ?_) ih
    rcases List.mem_cons.mp hy with e | e
    · rw [e]; exact px
    · exact sle_trans px ((List.pairwise_cons.mp ih).1 y e)
theorem sorted_pw {l : List Str} (h : sortedS l = true) : l.Pairwise SLe := by
  cases l with
  | nil => exact .nil
  | cons p r => exact rising_pw r p h
theorem sorted_one {a b : List Str} (ha : a.Pairwise SLe) (hb : b.Pairwise SLe) (h : a.Perm b) : a = b := by
  induction a generalizing b with
  | nil => rw [List.nil_perm.mp h]
  | cons x r ih =>
    cases b with
    | nil => exact absurd (List.perm_nil.mp h) (by simp)
    | cons y s =>
      have e : x = y := by
        have h1 : x ∈ y :: s := h.mem_iff.mp List.mem_cons_self
        have h2 : y ∈ x :: r := h.mem_iff.mpr List.mem_cons_self
        rcases List.mem_cons.mp h1 with e | e
        · exact e
        · rcases List.mem_cons.mp h2 with e2 | e2
          · exact e2.symm
          · exact sle_anti ((List.pairwise_cons.mp ha).1 y e2) ((List.pairwise_cons.mp hb).1 x e)
      subst e
      rw [ih (List.pairwise_cons.mp ha).2 (List.pairwise_cons.mp hb).2 ((List.perm_cons x).mp h)]
def firsts (l : List Str) : List Str := l.foldl (fun acc x => if x ∈ acc then acc else acc ++ [x]) []
theorem firsts_snoc (l : List Str) (x : Str) : firsts (l ++ [x]) = if x ∈ firsts l then firsts l else firsts l ++ [x] := by
  unfold firsts
  rw [List.foldl_append]; rfl
def rowB (s : Str) : Key × V := (.inr s, .bl true)
theorem put_rowB (l : List Str) (s : Str) : putK (l.map rowB) (Sum.inr s : Key) (.bl true) = (if s ∈ l then l else l ++ [s]).map rowB := by
  by_cases h : s ∈ l
  · rw [if_pos h]
    unfold putK
    rw [if_pos (by rw [List.any_eq_true]; exact ⟨rowB s, List.mem_map.mpr ⟨s, h, rfl⟩, decide_eq_true rfl⟩), List.map_map]
    refine List.map_congr_left fun x _ => ?_
    show (if (Sum.inr x : Key) = .inr s then (Sum.inr x, V.bl true) else rowB x) = rowB x
    split <;> rfl
  · rw [if_neg h]
    unfold putK
    rw [if_neg, List.map_append]; rfl
    rw [List.any_eq_true]
    rintro ⟨e, he, hd⟩
    obtain ⟨x, hx, rfl⟩ := List.mem_map.mp he
    have : (Sum.inr x : Key) = .inr s := of_decide_eq_true hd
    exact h (by rw [← Sum.inr.inj this]; exact hx)
theorem firsts_len (l : List Str) : (firsts l).length ≤ l.length := by
  have : ∀ (l acc : List Str), (l.foldl (fun acc x => if x ∈ acc then acc else acc ++ [x]) acc).length ≤ acc.length + l.length := fun l => by
    induction l with
    | nil => intro acc; exact Nat.le_refl _
    | cons a r ih =>
      intro acc
      refine Nat.le_trans (ih _) ?_
      show (if a ∈ acc then acc else acc ++ [a]).length + r.length ≤ acc.length + (a :: r).length
      split
      · rw [List.length_cons]; omega
      · rw [List.length_append]
        show acc.length + 1 + r.length ≤ acc.length + (r.length + 1); omega
  have := this l []
  rw [List.length_nil, Nat.zero_add] at this
  exact this
theorem eqv_str {x y : Str} : PyData.eqv (.str x) (.str y) = true ↔ x = y := by
  show (x == y) = true ↔ _
  exact beq_iff_eq
theorem eqv_int {x y : Int} : PyData.eqv (.int x) (.int y) = true ↔ x = y := by
  show (x == y) = true ↔ _
  exact beq_iff_eq
theorem eqvAll_cons {x y : PyData} {xs ys : List PyData} : PyData.eqvAll (x :: xs) (y :: ys) = true ↔ PyData.eqv x y = true ∧ PyData.eqvAll xs ys = true := by
  show (PyData.eqv x y && PyData.eqvAll xs ys) = true ↔ _
  rw [Bool.and_eq_true]
theorem eqv_strs : ∀ a b : List Str, PyData.eqvAll (a.map PyData.str) (b.map PyData.str) = decide (a = b)
  | [], [] => rfl
  | [], _ :: _ => rfl
  | _ :: _, [] => rfl
  | x :: r, y :: s => by
    rw [List.map_cons, List.map_cons]
    by_cases e : x :: r = y :: s
    · rw [decide_eq_true e]
      obtain ⟨rfl, rfl⟩ := List.cons.inj e
      exact eqvAll_cons.mpr ⟨eqv_str.mpr rfl, by rw [eqv_strs]; exact decide_eq_true rfl⟩
    · rw [decide_eq_false e]
      cases z : PyData.eqvAll (PyData.str x :: r.map PyData.str) (PyData.str y :: s.map PyData.str) with
      | false => rfl
      | true =>
        obtain ⟨h1, h2⟩ := eqvAll_cons.mp z
        rw [eqv_strs] at h2
        exact absurd (by rw [eqv_str.mp h1, of_decide_eq_true h2]) e
/-- a list or a tuple of a local, walked -/
theorem seq_it {K : PySem.W.Frag} {i : Nat} {p : Addr} {xs : List V} {σ : L2.St} {H : Hp} {R : It → Hp → Prop} (hq : Sq K H p xs) (hv : σ[i]? = some (some (.ref p))) (h : ∀ (J : It) (G : Hp → Prop), Walk J xs.length G (YAt xs) → (∀ H', Same H H' → G H') → R J H) :
    iList K (tVar i) σ H R ∨ iTup K (tVar i) σ H R := by
  rcases hq with hq | hq
  · exact .inl ⟨_, hv, p, rfl, ⟨_, hq⟩, h _ _ walk_list fun H' s => s.seq hq⟩
  · exact .inr ⟨_, hv, p, rfl, ⟨_, hq⟩, h _ _ walk_tup fun H' s => Same.seqT s hq⟩
theorem firsts_nodup (l : List Str) : (firsts l).Nodup := by
  have : ∀ (l acc : List Str), acc.Nodup → (l.foldl (fun acc x => if x ∈ acc then acc else acc ++ [x]) acc).Nodup := fun l => by
    induction l with
    | nil => exact fun acc h => h
    | cons a r ih =>
      intro acc h
      refine ih _ ?_
      show (if a ∈ acc then acc else acc ++ [a]).Nodup
      split
      · exact h
      · rename_i h1
        rw [List.nodup_append]
        exact ⟨h, by simp, fun x hx y hy e => h1 (by rw [List.mem_singleton] at hy; rw [← hy, ← e]; exact hx)⟩
  exact this l [] List.nodup_nil
theorem firsts_full {l : List Str} : (firsts l).length = l.length ↔ l.Nodup := by
  suffices h : ∀ (l : List Str), (l.Nodup → firsts l = l) ∧ ((firsts l).length = l.length → l.Nodup) ∧ ∀ x, x ∈ firsts l ↔ x ∈ l from ⟨(h l).2.1, fun n => by rw [(h l).1 n]⟩
  suffices h : ∀ (l : List Str), (l.reverse.Nodup → firsts l.reverse = l.reverse) ∧ ((firsts l.reverse).length = l.reverse.length → l.reverse.Nodup) ∧ ∀ x, x ∈ firsts l.reverse ↔ x ∈ l.reverse from fun l => by
    have := h l.reverse
    rwa [List.reverse_reverse] at this
  intro l
  induction l with
  | nil => exact ⟨fun _ => rfl, fun _ => List.nodup_nil, fun x => Iff.rfl⟩
  | cons a r ih =>
    rw [List.reverse_cons]
    generalize r.reverse = r at ih ⊢
    obtain ⟨i1, i2, i3⟩ := ih
    have fl := firsts_len r
    rw [firsts_snoc]
    by_cases ha : a ∈ firsts r
    · rw [if_pos ha]
      refine ⟨fun n => ?_, fun e => ?_, fun x => ?_⟩
      · rw [List.nodup_append] at n
        exact absurd rfl (n.2.2 a ((i3 a).mp ha) a (by simp))
      · rw [List.length_append] at e
        have : [a].length = 1 := rfl
        omega
      · rw [i3, List.mem_append, List.mem_singleton]
        exact ⟨.inl, fun h => h.elim id fun e => by rw [e]; exact (i3 a).mp ha⟩
    · rw [if_neg ha]
      refine ⟨fun n => ?_, fun e => ?_, fun x => ?_⟩
      · rw [i1 ((List.nodup_append.mp n).1)]
      · rw [List.length_append, List.length_append] at e
        rw [List.nodup_append]
        exact ⟨i2 (by omega), by simp, fun x hx y hy e2 => ha ((i3 a).mpr (by rw [List.mem_singleton] at hy; rw [← hy, ← e2]; exact hx))⟩
      · rw [List.mem_append, List.mem_append, i3]
theorem isWd.ok {x : Str} (h : isWd x = true) : PyData.strOk x = true := by
  have key : ∀ s ∈ OTH.cps.toList, s < 0x110000 := by decide +kernel
  unfold isWd at h
  obtain ⟨_, h⟩ := Bool.and_eq_true_iff.mp h
  obtain ⟨_, h⟩ := Bool.and_eq_true_iff.mp h
  show x.cps.all (· < 0x110000) = true
  rw [← Array.all_toList, List.all_eq_true]
  exact fun s hs => decide_eq_true (key s (of_decide_eq_true (List.all_eq_true.mp h s hs)))
theorem strs_dp {K : PySem.W.Frag} {H : Hp} {p : Addr} {ws : List Str} (h : H p = some (.lst (ws.map V.str))) : Dp K H (.ref p) (.list (ws.map PyData.str)) := by
  refine .lst (SqL.of h) ?_
  clear h
  induction ws with
  | nil => exact .nil
  | cons x r ih => exact .cons (.str x) ih
theorem strs_lay {ws : List Str} (h : ∀ x ∈ ws, PyData.strOk x = true) : (PyData.list (ws.map PyData.str)).canLay0 = true := lay_all fun d hd => by
  obtain ⟨x, hx, rfl⟩ := List.mem_map.mp hd
  exact h x hx
theorem strs_depth (ws : List Str) : (PyData.list (ws.map PyData.str)).depth ≤ 190 := by
  have h : PyData.depthAll (ws.map PyData.str) ≤ 1 := depth_all fun d hd => by
    obtain ⟨x, hx, rfl⟩ := List.mem_map.mp hd
    unfold PyData.depth
    decide
  unfold PyData.depth
  omega
theorem sortSq_of {K : PySem.W.Frag} {H : Hp} {p : Addr} {ps : List Str} {Q : VK} (hp : Sq K H p (ps.map V.str)) (few : ps.length < 64) (h : ∀ (ys : List Str) (q : Addr), ys.Perm ps → sortedS ys = true → H q = none → Q (.ref q) (upd H q (.lst (ys.map V.str)))) : PKJ.rSortSq K [.ref p] H Q :=
  hp.elim (fun z => .inl ⟨p, ps, rfl, z, few, h⟩) fun z => .inr ⟨p, ps, rfl, z, by omega, h⟩
theorem Tm.hd_map (k : Tm) : decide (V.str k.hd = V.str "map") = (match k with | .map _ => true | _ => false) := by
  have ne : ∀ s ∈ (["int", "name", "addr", "meta", "node"] : List Str), s ≠ "map" := by decide +kernel
  cases k with
  | map es => exact decide_eq_true rfl
  | form f ts => exact decide_eq_false fun z => f.ne_map (V.str.inj z)
  | int n => exact decide_eq_false fun z => ne "int" (by decide) (V.str.inj z)
  | name n => exact decide_eq_false fun z => ne "name" (by decide) (V.str.inj z)
  | addr n => exact decide_eq_false fun z => ne "addr" (by decide) (V.str.inj z)
  | var n => exact decide_eq_false fun z => ne "meta" (by decide) (V.str.inj z)
  | node c ts => exact decide_eq_false fun z => ne "node" (by decide) (V.str.inj z)
def okPs (m : Nat) (ps : List Str) : Bool := decide (ps.length = m ∧ (∀ p ∈ ps, isWd p = true) ∧ ps.Nodup)
def arOf (cs : List Con) (w : Str) : Option Nat := (cs.find? fun c => decide (c.nm = w)).map Con.ar
def NumR (kvs : List (Key × V)) (cs : List Con) : Prop := ∀ w : Str, valV kvs (.inr w) = (arOf cs w).map fun n => V.int (n : Nat)
def headOk (cs : List Con) : Tm → Bool
  | .node c ts => decide (arOf cs c = some ts.length)
  | .form _ _ => false
  | _ => true
def isMp : Tm → Bool | .map _ => true | _ => false
def isNd : Tm → Bool | .node _ _ => true | _ => false
def vW (k : Tm) : Option Str := match k with | .var s => some s | _ => none
def Tm.wordsOf (t : Tm) : List Str := t.parts.filterMap vW
def wrongP (con : Con) (cs : List Con) (r : Rw) : Option Str :=
  if r.nm ≠ con.nm then some "name" else if okPs con.ar r.ps = false then some "parameters" else if r.t.parts.all (headOk cs) = false then some "signature" else if r.t.parts.any isMp = true then some "map"
  else if ¬ r.t.wordsOf.Perm r.ps then some "once" else if isNd r.t = true then none else some "node"
def optV : Option Str → V
  | none => .non
  | some s => .str s
def spPars (K : PySem.W.Frag) : Sp := fun vs H Q _ => ∃ (p : Addr) (m : Nat) (ps : List Str), vs = [.ref p, .int (m : Nat)] ∧ Sq K H p (ps.map V.str) ∧ ps.length ≤ 100 ∧ (∀ x ∈ ps, x.length ≤ 1000) ∧ ∀ H', Same H H' → Q (.bl (okPs m ps)) H'
def spHead (K : PySem.W.Frag) : Sp := fun vs H Q _ => ∃ (N : Addr) (v : V) (kvs : List (Key × V)) (cs : List Con) (t : Tm), vs = [.ref N, v] ∧ H N = some (.dK kvs) ∧ NumR kvs cs ∧ Dt K H v t.d ∧ t.kids.length ≤ 1000 ∧ ∀ H', Same H H' → Q (.bl (headOk cs t)) H'
/-- a row as it is handed over: its parameters a list or a tuple -/
def RowV (K : PySem.W.Frag) (H : Hp) (v : V) (r : Rw) : Prop := ∃ a p tv, v = .ref a ∧ SqT K H a [.str r.nm, .ref p, tv] ∧ Sq K H p (r.ps.map V.str) ∧ Dt K H tv r.t.d
theorem RowV.same {K : PySem.W.Frag} {H H' : Hp} {v : V} {r : Rw} (h : RowV K H v r) (s : Same H H') : RowV K H' v r := by
  obtain ⟨a, p, tv, rfl, h1, h2, h3⟩ := h
  exact ⟨a, p, tv, rfl, Same.seqT s h1, h2.same s, h3.same s⟩
structure Rw.small (r : Rw) : Prop where
  ps : r.ps.length ≤ 20
  wd : ∀ x ∈ r.ps, x.length ≤ 100
  sz : r.t.size ≤ 1000
  kd : ∀ k ∈ r.t.parts, k.kids.length ≤ 1000
  fw : r.t.wordsOf.length < 64
  wd' : ∀ x ∈ r.t.wordsOf, isWd x = true
def spWrong (K : PySem.W.Frag) : Sp := fun vs H Q _ => ∃ (cv v : V) (N : Addr) (con : Con) (kvs : List (Key × V)) (cs : List Con) (r : Rw), vs = [cv, .ref N, v] ∧ Dt K H cv con.d ∧ H N = some (.dK kvs) ∧ NumR kvs cs ∧ RowV K H v r ∧ r.small ∧ ∀ H', Same H H' → Q (optV (wrongP con cs r)) H'
section
variable {P : Program} {w : World} {K : PySem.W.Frag} {mg : Str → Option Value} {base : Heap} {aF aR aL C : Addr}
abbrev s_are_parameters : Stmt := topS 101
theorem sc_are_parameters : FnScope ["parameters", "many", "word"] ["parameters", "many"] (defScope s_are_parameters) := ⟨rfl, rfl, rfl, by decide +kernel, rfl, by decide +kernel, by decide +kernel⟩
-- slots: 0:parameters 1:many 2:word(comp)
abbrev s_has_right_head : Stmt := topS 102
theorem sc_has_right_head : FnScope ["numbers", "part"] ["numbers", "part"] (defScope s_has_right_head) := ⟨rfl, rfl, rfl, by decide +kernel, rfl, by decide +kernel, by decide +kernel⟩
-- slots: 0:numbers 1:part
abbrev s_wrong_part_passes : Stmt := topS 99
theorem sc_wrong_part_passes : FnScope ["constructor", "numbers", "row", "name", "parameters", "template", "parts", "part"] ["constructor", "numbers", "row"] (defScope s_wrong_part_passes) := ⟨rfl, rfl, rfl, by decide +kernel, rfl, by decide +kernel, by decide +kernel⟩
-- slots: 0:constructor 1:numbers(cell) 2:row 3:name 4:parameters 5:template 6:parts 7:part(comp)
theorem ok_pars {f : Addr} {fd : FuncData} (F : Fun K "_are_parameters" "_are_parameters" s_are_parameters f fd) (T : TxtL K mg aF aR aL) (C_is_word : C8.Cal P w K mg base 1 "is_word" spWord []) : FnOk P w K mg base CX0 2 f fd ["parameters", "many"] (spPars K) := by
  refine F.ok sc_are_parameters (fun vs H Q E h => ?_) (fun cdv A outer s H vs Q E hr h => ?_)
  · obtain ⟨_, _, _, rfl, _⟩ := h
    rfl
  obtain ⟨p, m, ps, rfl, hp, lp, lw, q⟩ := h
  refine ⟨_, (pss_cons (ps_if (PW.pt (pw_or (pt_cmpR op_ne (pe_callB call_len_seq (by rfl) T.z_len (by decide +kernel) (pa_cons (pv 0) pa_nil)) (pv 1) (nomark _)) (pw_or1 (pt_not (pt_val (pe_callB (cr_all (by rfl)) (by rfl) T.z_all (by decide +kernel) (pa_cons (pe_lc (own := [("word", 2)]) (g := (gName 2)) (tt := tYes) (by rfl) sc_are_parameters.nd (PKR.pi_or (pi_list (pv 0)) (pi_tup (pv 0))) (blkOk_by (N := ["parameters", "many", "word"]) (sc := defScope s_are_parameters) (by decide +kernel)) (fun _ _ _ _ _ => (pg_name (i := 2) sc_are_parameters.nd rfl (Or.inl rfl))) (fun _ _ _ _ _ => pts_nil) (fun _ _ _ _ _ => (C8.pe_c C_is_word hr (by decide) rfl (pa_cons (pv 2) pa_nil)))) pa_nil))))))) (pss_one (ps_ret pe_bl)) pss_nil)
    (pss_one (ps_ret (pe_cmpR op_eq (pe_callB call_lenD (by rfl) T.z_len (by decide +kernel) (pa_cons (pe_dc (own := [("word", 2)]) (g := (gName 2)) (tt := tYes) (by rfl) sc_are_parameters.nd (PKR.pi_or (pi_list (pv 0)) (pi_tup (pv 0))) (blkOk_by (N := ["parameters", "many", "word"]) (sc := defScope s_are_parameters) (by decide +kernel)) (fun _ _ _ _ _ => (pg_name (i := 2) sc_are_parameters.nd rfl (Or.inl rfl))) (fun _ _ _ _ _ => pts_nil) (fun _ _ _ _ _ => (pv 2)) (fun _ _ _ _ _ => pe_bl)) pa_nil)) (pv 1) (nomark _))))), ?_⟩
  have lm : (ps.map V.str).length = ps.length := List.length_map ..
  have bad : ∀ {H' : Hp}, Same H H' → okPs m ps = false → Q (.bl false) H' := fun s e => by rw [← e]; exact q _ s
  have gt : ∀ {i : Nat} {x : V}, (ps.map V.str)[i]? = some x → ∃ k, ps[i]? = some k ∧ k ∈ ps ∧ x = .str k := fun {i x} gx => by
    rw [List.getElem?_map] at gx
    cases e0 : ps[i]? with
    | none => rw [e0] at gx; cases gx
    | some k => rw [e0] at gx; cases gx; exact ⟨k, rfl, List.mem_of_getElem? e0, rfl⟩
  refine ⟨_, rfl, p, _, rfl, hp, _, rfl, rfl, _, rfl, ?_⟩
  rw [lm]
  by_cases e1 : (ps.length : Int) = (m : Int)
  · rw [decide_eq_true (show V.int (ps.length : Nat) = V.int (m : Nat) by rw [e1])]
    refine iteF ?_
    refine seq_it hp rfl fun J G wk hG D hD => lc_it wk (fun i H' => Same H H' ∧ H' D = some (.lst (((ps.take i).map isWd).map V.bl))) ⟨same_new hD, upd_same⟩ (fun i H' _ h => hG _ h.1) ?_ ?_
    · rintro i x H1 H1 hi ⟨s1, h1⟩ ⟨rfl, gx⟩
      obtain ⟨k, gk, mk, rfl⟩ := gt gx
      refine ⟨rfl, yes_ ⟨_, rfl, k, rfl, lw k mk, fun H2 s2 => ⟨_, s2 _ _ h1, ?_, Same.upd (s1.trans s2) hD, ?_⟩⟩⟩
      · rw [List.length_map, List.length_map, List.length_take]; exact smallL (by omega)
      · rw [upd_same, List.take_add_one, gk]; simp
    rintro H1 ⟨s1, h1⟩
    rw [lm, List.take_length] at h1
    refine ⟨D, _, rfl, SqL.of h1, ⟨_, rfl, ?_⟩⟩
    by_cases e2 : (ps.map isWd).all id = true
    · rw [e2]
      have ok2 : ∀ x ∈ ps, isWd x = true := fun x hx => List.all_eq_true.mp e2 _ (List.mem_map_of_mem hx)
      refine iteF (seq_it (hp.same s1) rfl fun J G wk hG D2 hD2 => it_W wk _ (fun i H' => Same H1 H' ∧ H' D2 = some (.dK ((firsts (ps.take i)).map rowB))) ⟨same_new hD2, upd_same⟩ (fun i H' _ h => hG _ h.1) ?_ ?_)
      · rintro i x H2 H2 hi ⟨s2, h2⟩ ⟨rfl, gx⟩
        obtain ⟨k, gk, mk, rfl⟩ := gt gx
        have lf := firsts_len (ps.take i)
        rw [List.length_take] at lf
        refine ⟨rfl, iteT (B := True) ⟨_, rfl, _, .inr k, rfl, h2, smallL (by rw [List.length_map]; omega), Same.upd s2 hD2, ?_⟩⟩
        rw [upd_same, put_rowB, List.take_add_one, gk]
        show _ = some (HO.dK ((firsts (ps.take i ++ [k])).map rowB))
        rw [firsts_snoc]
      rintro H2 ⟨s2, h2⟩
      rw [lm, List.take_length] at h2
      refine ⟨D2, _, rfl, h2, _, rfl, rfl, ?_⟩
      have := q H2 (s1.trans s2)
      rw [List.length_map]
      have ee : okPs m ps = decide (V.int ((firsts ps).length : Nat) = V.int (m : Nat)) := by
        unfold okPs
        refine decide_eq_decide.mpr ⟨fun h => ?_, fun h => ⟨by omega, ok2, firsts_full.mp ?_⟩⟩
        · rw [firsts_full.mpr h.2.2, h.1]
        · have := V.int.inj h; omega
      rwa [ee] at this
    · have e2' : (ps.map isWd).all id = false := by cases z : (ps.map isWd).all id with | false => rfl | true => exact absurd z e2
      rw [e2']
      exact iteT (bad s1 (decide_eq_false fun z => e2 (List.all_eq_true.mpr fun b hb => by obtain ⟨x, hx, rfl⟩ := List.mem_map.mp hb; exact z.2.1 x hx)))
  · rw [decide_eq_false (show ¬ V.int (ps.length : Nat) = V.int (m : Nat) from fun z => e1 (V.int.inj z))]
    exact iteT (bad (Same.refl H) (decide_eq_false fun z => e1 (by omega)))
theorem ok_head {f : Addr} {fd : FuncData} (F : Fun K "_has_right_head" "_has_right_head" s_has_right_head f fd) (T : TxtL K mg aF aR aL) : FnOk P w K mg base CX0 1 f fd ["numbers", "part"] (spHead K) := by
  refine F.ok sc_has_right_head (fun vs H Q E h => ?_) (fun cdv A outer s H vs Q E hr h => ?_)
  · obtain ⟨_, _, _, _, _, rfl, _⟩ := h
    rfl
  obtain ⟨N, v, kvs, cs, t, rfl, hN, hk, hv, hl, q⟩ := h
  refine ⟨_, (pss_cons (ps_if (pt_cmpR op_eq (pe_ix ix_tup (pv 1) pe_int (fun _ _ => rfl)) pe_str (nomark _)) (pss_one (ps_ret (pe_and (pe_cmp (pc_din (hu_of hr) (pe_ix ix_tup (pv 1) pe_int (fun _ _ => rfl)) (pv 0))) (pe_one (pe_cmpR op_eq (pe_callB call_len_seq (by rfl) T.z_len (by decide +kernel) (pa_cons (pe_ix ix_tup (pv 1) pe_int (fun _ _ => rfl)) pa_nil)) (pe_dget (hu_of hr) (pv 0) (pe_ix ix_tup (pv 1) pe_int (fun _ _ => rfl)) (fun _ _ => rfl)) (nomark _)))))) pss_nil)
    (pss_one (ps_ret (pe_or (pe_cmpR op_in_seq (pe_ix ix_tup (pv 1) pe_int (fun _ _ => rfl)) (pe_glob (v := .ref aL) rfl T.g_LV rfl) rfl) (pe_one (pe_cmpR op_eq (pe_ix ix_tup (pv 1) pe_int (fun _ _ => rfl)) pe_str (nomark _))))))), ?_⟩
  have q0 := q H (Same.refl H)
  obtain ⟨a, rr, rfl, hs⟩ := Tm.dt_parts hv
  have h0 : atI (V.str t.hd :: rr) 0 = some (.str t.hd) := atI_nat (j := 0) rfl
  refine vTx rfl hs h0 ⟨rfl, _, rfl, ?_⟩
  by_cases hn : t.hd = "node"
  · obtain ⟨c, ts, rfl⟩ := Tm.of_node hn
    unfold Tm.d at hv
    obtain ⟨a', x, y, z, ea, hs', h1, h2, h3⟩ := Dt.t3 hv
    cases ea
    obtain rfl := h1.s
    obtain rfl := h2.s
    obtain ⟨b, ys, rfl, hb, hys⟩ := Dt.tn h3
    rw [Tm.ds_map] at hys
    have ly : ys.length = ts.length := by rw [hys.lenD, List.length_map]
    refine sT hn (vTx rfl hs' rfl ⟨_, rfl, N, _, rfl, DGet.k (k := Sum.inr c) hN, ?_⟩)
    rw [hk c]
    cases e : arOf cs c with
    | none =>
      have : headOk cs (.node c ts) = false := decide_eq_false (by rw [e]; simp)
      rw [this] at q0
      exact ⟨_, rfl, iteF q0⟩
    | some n =>
      refine ⟨_, rfl, iteT (vTx rfl hs' rfl ⟨b, ys, rfl, .inr hb, _, rfl, vTx rfl hs' rfl ⟨N, .int (n : Nat), rfl, (by have z := DGet.k (k := Sum.inr c) hN; rw [hk c, e] at z; exact z), rfl, ?_⟩⟩)⟩
      have ee : headOk cs (.node c ts) = decide (V.int (ys.length : Nat) = V.int (n : Nat)) := by
        show decide _ = _
        rw [e]
        refine decide_eq_decide.mpr ⟨fun h => ?_, fun h => ?_⟩
        · rw [ly, Option.some.inj h]
        · have := V.int.inj h
          exact congrArg some (by omega)
      rwa [ee] at q0
  · refine sF hn (vTx rfl hs h0 ⟨aL, _, rfl, .inr (T.lv _), rfl, rfl, _, rfl, ?_⟩)
    rw [show inV (V.str t.hd) [V.str "int", V.str "name", V.str "addr", V.str "meta"] = decide (t.hd ∈ (["int", "name", "addr", "meta"] : List Str)) from inV_str t.hd ["int", "name", "addr", "meta"]]
    cases t with
    | node c ts => exact absurd rfl hn
    | int n => exact iteT q0
    | name n => exact iteT q0
    | addr n => exact iteT q0
    | var n => exact iteT q0
    | map es => exact iteF (vTx rfl hs h0 ⟨rfl, q0⟩)
    | form f ts => cases f <;> exact iteF (vTx rfl hs h0 ⟨rfl, q0⟩)
theorem ok_wrong {f : Addr} {fd : FuncData} (F : Fun K "_wrong_part" "_wrong_part" s_wrong_part_passes f fd) (T : TxtL K mg aF aR aL) (C_are_parameters : C8.Cal P w K mg base 2 "_are_parameters" (spPars K) []) (C_has_right_head : C8.Cal P w K mg base 1 "_has_right_head" (spHead K) [])
    (C_parts_of : PKL.CalGE P w K mg base 2 "parts_of" (spPg K)) : FnOk P w K mg base CX0 6 f fd ["constructor", "numbers", "row"] (spWrong K) := by
  refine F.ok sc_wrong_part_passes (fun vs H Q E h => ?_) (fun cdv A outer s H vs Q E hr h => ?_)
  · obtain ⟨_, _, _, _, _, _, _, rfl, _⟩ := h
    rfl
  obtain ⟨cv, v, N, con, kvs, cs, r, rfl, hcv, hN, hk, hv, sm, q⟩ := h
  refine ⟨_, (pss_cons (ps_asg (pv 2) (pg_tup (by rfl) (pgs_cons (pg_name (i := 3) sc_wrong_part_passes.nd rfl (Or.inl rfl)) (pgs_cons (pg_name (i := 4) sc_wrong_part_passes.nd rfl (Or.inl rfl)) (pgs_cons (pg_name (i := 5) sc_wrong_part_passes.nd rfl (Or.inl rfl)) pgs_nil)))))
    (pss_cons (ps_if (pt_cmpR op_ne (pv 3) (pe_ix ix_tup (pv 0) pe_int (fun _ _ => rfl)) (nomark _)) (pss_one (ps_ret pe_str)) pss_nil)
    (pss_cons (ps_if (pt_not (pt_val (C8.pe_c C_are_parameters hr (by decide) rfl (pa_cons (pv 4) (pa_cons (pe_ix ix_tup (pv 0) pe_int (fun _ _ => rfl)) pa_nil))))) (pss_one (ps_ret pe_str)) pss_nil)
    (pss_cons (ps_set (i := 6) sc_wrong_part_passes.nd rfl (Or.inl rfl) (PKL.pe_listOf C_parts_of hr (by decide) rfl (pa_cons (pv 5) pa_nil) (by rfl) T.z_list (by decide +kernel)))
    (pss_cons (ps_if (pt_not (pt_val (pe_callB (cr_all (by rfl)) (by rfl) T.z_all (by decide +kernel) (pa_cons (pe_lc (own := [("part", 7)]) (g := (gName 7)) (tt := tYes) (by rfl) sc_wrong_part_passes.nd (pi_list (pv 6)) (blkOk_by (N := ["constructor", "numbers", "row", "name", "parameters", "template", "parts", "part"]) (sc := defScope s_wrong_part_passes) (by decide +kernel)) (fun _ _ _ _ _ => (pg_name (i := 7) sc_wrong_part_passes.nd rfl (Or.inl rfl))) (fun _ _ _ _ _ => pts_nil) (fun _ _ _ _ _ => (C8.pe_c C_has_right_head hr (by decide) rfl (pa_cons (pv 1) (pa_cons (pv 7) pa_nil))))) pa_nil)))) (pss_one (ps_ret pe_str)) pss_nil)
    (pss_cons (ps_if (pt_val (pe_callB (cr_any (by rfl)) (by rfl) T.z_any (by decide +kernel) (pa_cons (pe_lc (own := [("part", 7)]) (g := (gName 7)) (tt := tYes) (by rfl) sc_wrong_part_passes.nd (pi_list (pv 6)) (blkOk_by (N := ["constructor", "numbers", "row", "name", "parameters", "template", "parts", "part"]) (sc := defScope s_wrong_part_passes) (by decide +kernel)) (fun _ _ _ _ _ => (pg_name (i := 7) sc_wrong_part_passes.nd rfl (Or.inl rfl))) (fun _ _ _ _ _ => pts_nil) (fun _ _ _ _ _ => (pe_cmpR op_eq (pe_ix (r := rIxT K) ix_tup (pv 7) pe_int (fun _ _ => rfl)) pe_str (nomark _)))) pa_nil))) (pss_one (ps_ret pe_str)) pss_nil)
    (pss_cons (ps_if (pt_cmpR (PKE.op_neN (n := 190) (eqU hr)) (pe_callB cr_sortedS (by rfl) T.z_sorted (by decide +kernel) (pa_cons (pe_lc (own := [("part", 7)]) (g := (gName 7)) (by rfl) sc_wrong_part_passes.nd (pi_list (pv 6)) (blkOk_by (N := ["constructor", "numbers", "row", "name", "parameters", "template", "parts", "part"]) (sc := defScope s_wrong_part_passes) (by decide +kernel)) (fun _ _ _ _ _ => (pg_name (i := 7) sc_wrong_part_passes.nd rfl (Or.inl rfl))) (fun _ _ _ _ _ => pts_one (pt_cmpR op_eq (pe_ix (r := rIxT K) ix_tup (pv 7) pe_int (fun _ _ => rfl)) pe_str (nomark _))) (fun _ _ _ _ _ => (pe_ix (r := rIxT K) ix_tup (pv 7) pe_int (fun _ _ => rfl)))) pa_nil)) (pe_callB PKJ.cr_sortSq (by rfl) T.z_sorted (by decide +kernel) (pa_cons (pv 4) pa_nil)) (nomark _)) (pss_one (ps_ret pe_str)) pss_nil)
    (pss_one (ps_ret (pe_ifExp (pt_cmpR op_eq (pe_ix ix_tup (pv 5) pe_int (fun _ _ => rfl)) pe_str (nomark _)) pe_non pe_str)))))))))), ?_⟩
  obtain ⟨ca, cz, rfl, hc⟩ := Con.get hcv
  obtain ⟨a, p, tv, rfl, hs, hp, ht⟩ := hv
  have out : ∀ {o : Option Str} {H' : Hp}, Same H H' → wrongP con cs r = o → Q (optV o) H' := fun s e => by rw [← e]; exact q _ s
  refine ⟨_, rfl, a, _, rfl, hs, rfl, _, _, rfl, _, _, rfl, _, _, rfl, rfl, ?_⟩
  refine ⟨_, rfl, vTx rfl hc rfl ⟨rfl, _, rfl, ?_⟩⟩
  by_cases e1 : r.nm = con.nm
  case neg => exact nT e1 (out (o := some "name") (Same.refl H) (by unfold wrongP; rw [if_pos e1]))
  refine nF e1 ⟨_, rfl, vTx rfl hc rfl ⟨p, con.ar, r.ps, rfl, hp, by have := sm.ps; omega, fun x hx => by have := sm.wd x hx; omega, fun H1 s1 => ⟨_, rfl, ?_⟩⟩⟩
  have w1 : ¬ (r.nm ≠ con.nm) := fun z => z e1
  cases e2 : okPs con.ar r.ps with
  | false => exact iteT (out (o := some "parameters") s1 (by unfold wrongP; rw [if_neg w1, if_pos e2]))
  | true =>
  refine iteF ⟨_, rfl, tv, r.t, rfl, ht.same s1, by have := sm.sz; omega, fun H2 ws s2 dws p6 hp6 => ?_⟩
  have s3 := (s1.trans s2).trans (same_new (o := .lst ws) hp6)
  have dw3 := dws.same (same_new (o := .lst ws) hp6)
  have hp63 : (upd H2 p6 (.lst ws)) p6 = some (.lst ws) := upd_same
  generalize upd H2 p6 (HO.lst ws) = H3 at *
  have lps := Tm.parts_len r.t
  have lws : ws.length = r.t.parts.length := by rw [dws.lenD, List.length_map]
  have lsz := sm.sz
  have at_ : ∀ {i : Nat} {x : V} {H' : Hp}, Same H3 H' → ws[i]? = some x → ∃ k, r.t.parts[i]? = some k ∧ k ∈ r.t.parts ∧ Dt K H' x k.d := fun {i x H'} s e => by
    obtain ⟨d, gd, dx⟩ := dw3.getX e
    rw [List.getElem?_map] at gd
    cases e0 : r.t.parts[i]? with
    | none => rw [e0] at gd; cases gd
    | some y => rw [e0] at gd; cases gd; exact ⟨y, rfl, List.mem_of_getElem? e0, dx.same s⟩
  -- the heads
  refine ⟨_, rfl, p6, rfl, ⟨_, SqL.of hp63⟩, fun D hD => lc_it (walk_list (K := K) (xs := ws)) (fun i H' => Same H3 H' ∧ H' D = some (.lst (((r.t.parts.take i).map (headOk cs)).map V.bl))) ⟨same_new hD, upd_same⟩ (fun i H' _ h => SqL.of (h.1 _ _ hp63)) ?_ ?_⟩
  · rintro i x H4 H4 hi ⟨s4, h4⟩ ⟨rfl, gx⟩
    obtain ⟨k, gk, mk, dk⟩ := at_ s4 gx
    refine ⟨rfl, yes_ ⟨_, rfl, _, rfl, N, x, kvs, cs, k, rfl, s4 _ _ (s3 _ _ hN), hk, dk, sm.kd k mk, fun H5 s5 => ⟨_, s5 _ _ h4, ?_, Same.upd (s4.trans s5) hD, ?_⟩⟩⟩
    · rw [List.length_map, List.length_map, List.length_take]; exact smallL (by omega)
    · rw [upd_same, List.take_add_one, gk]; simp
  rintro H4 ⟨s4, h4⟩
  rw [lws, List.take_length] at h4
  have s4' := s3.trans s4
  refine ⟨D, _, rfl, SqL.of h4, ⟨_, rfl, ?_⟩⟩
  have ea : (r.t.parts.map (headOk cs)).all id = r.t.parts.all (headOk cs) := by rw [List.all_map]; rfl
  rw [ea]
  cases e3 : r.t.parts.all (headOk cs) with
  | false => exact iteT (out (o := some "signature") s4' (by unfold wrongP; rw [if_neg w1, if_neg (by rw [e2]; exact fun z => nomatch z), if_pos e3]))
  | true =>
  -- maps
  refine iteF ⟨_, rfl, p6, rfl, ⟨_, SqL.of (s4 _ _ hp63)⟩, fun D2 hD2 => lc_it (walk_list (K := K) (xs := ws)) (fun i H' => Same H4 H' ∧ H' D2 = some (.lst (((r.t.parts.take i).map isMp).map V.bl))) ⟨same_new hD2, upd_same⟩ (fun i H' _ h => SqL.of (h.1 _ _ (s4 _ _ hp63))) ?_ ?_⟩
  · rintro i x H5 H5 hi ⟨s5, h5⟩ ⟨rfl, gx⟩
    obtain ⟨k, gk, mk, dk⟩ := at_ (s4.trans s5) gx
    obtain ⟨b, rr, rfl, hb⟩ := Tm.dt_parts dk
    have h0 : atI (V.str k.hd :: rr) 0 = some (.str k.hd) := atI_nat (j := 0) rfl
    refine ⟨rfl, yes_ (vTx rfl hb h0 ⟨rfl, _, h5, ?_, Same.upd s5 hD2, ?_⟩)⟩
    · rw [List.length_map, List.length_map, List.length_take]; exact smallL (by omega)
    · have eb : decide (V.str k.hd = V.str "map") = isMp k := k.hd_map
      rw [upd_same, List.take_add_one, gk, eb]; simp
  rintro H5 ⟨s5, h5⟩
  rw [lws, List.take_length] at h5
  have s5' := s4'.trans s5
  refine ⟨D2, _, rfl, SqL.of h5, _, rfl, ?_⟩
  have ea2 : (r.t.parts.map isMp).any id = r.t.parts.any isMp := by rw [List.any_map]; rfl
  rw [ea2]
  have w2 : ¬ (okPs con.ar r.ps = false) := by rw [e2]; exact fun z => nomatch z
  have w3 : ¬ (r.t.parts.all (headOk cs) = false) := by rw [e3]; exact fun z => nomatch z
  cases e4 : r.t.parts.any isMp with
  | true => exact iteT (out (o := some "map") s5' (by unfold wrongP; rw [if_neg w1, if_neg w2, if_neg w3, if_pos e4]))
  | false =>
  have w4 : ¬ (r.t.parts.any isMp = true) := by rw [e4]; exact fun z => nomatch z
  -- the words
  refine iteF ⟨_, rfl, p6, rfl, ⟨_, SqL.of (s5 _ _ (s4 _ _ hp63))⟩, fun D3 hD3 => lc_it (walk_list (K := K) (xs := ws)) (fun i H' => Same H5 H' ∧ H' D3 = some (.lst (((r.t.parts.take i).filterMap vW).map V.str))) ⟨same_new hD3, upd_same⟩ (fun i H' _ h => SqL.of (h.1 _ _ (s5 _ _ (s4 _ _ hp63)))) ?_ ?_⟩
  · rintro i x H6 H6 hi ⟨s6, h6⟩ ⟨rfl, gx⟩
    obtain ⟨k, gk, mk, dk⟩ := at_ ((s4.trans s5).trans s6) gx
    have dk0 := dk
    obtain ⟨b, rr, rfl, hb⟩ := Tm.dt_parts dk
    have h0 : atI (V.str k.hd :: rr) 0 = some (.str k.hd) := atI_nat (j := 0) rfl
    have ln : ((r.t.parts.take i).filterMap vW).length ≤ 1000 := Nat.le_trans (List.length_filterMap_le _ _) (by rw [List.length_take]; omega)
    refine ⟨rfl, vTx rfl hb h0 ⟨rfl, _, rfl, ?_⟩⟩
    by_cases ek : k.hd = "meta"
    · obtain ⟨s, rfl⟩ := Tm.of_var ek
      unfold Tm.d at dk0
      obtain ⟨b', x', y', eb', hb', g1, g2⟩ := Dt.t2 dk0
      cases eb'
      obtain rfl := g1.s
      obtain rfl := g2.s
      refine sT ek (vTx rfl hb' rfl ⟨_, h6, smallL (by rw [List.length_map]; omega), Same.upd s6 hD3, ?_⟩)
      rw [upd_same, List.take_add_one, gk]; simp [vW]
    · refine sF ek ⟨s6, ?_⟩
      have : [k].filterMap vW = [] := by
        cases k with
        | var s => exact absurd rfl ek
        | _ => rfl
      rw [h6, List.take_add_one, gk, List.filterMap_append]
      show _ = some (HO.lst ((_ ++ [k].filterMap vW).map V.str))
      rw [this, List.append_nil]
  rintro H6 ⟨s6, h6⟩
  rw [lws, List.take_length] at h6
  have s6' := s5'.trans s6
  have okw : ∀ x ∈ r.ps, isWd x = true := (of_decide_eq_true (show decide _ = true from e2)).2.1
  have lp := sm.ps
  refine ⟨D3, _, rfl, SqL.of h6, sm.fw, fun ys p7 py sy hp7 => ⟨_, rfl, ?_⟩⟩
  have s7 := s6'.trans (same_new (o := .lst (ys.map V.str)) hp7)
  refine sortSq_of (hp.same s7) (by omega) fun zs p8 pz sz hp8 => ?_
  have s8 := s7.trans (same_new (o := .lst (zs.map V.str)) hp8)
  have ne78 : p7 ≠ p8 := ne_of_none upd_same hp8
  refine ⟨_, _, strs_dp (ws := ys) (by rw [upd_ne ne78, upd_same]), strs_dp (ws := zs) upd_same, strs_lay fun x hx => isWd.ok (sm.wd' x (py.mem_iff.mp hx)), strs_lay fun x hx => isWd.ok (okw x (pz.mem_iff.mp hx)), .inl (strs_depth _), _, rfl, ?_⟩
  rw [show PyData.eqv (.list (ys.map PyData.str)) (.list (zs.map PyData.str)) = decide (ys = zs) from eqv_strs ys zs]
  by_cases e5 : r.t.wordsOf.Perm r.ps
  case neg =>
    have : ys ≠ zs := fun e => e5 (py.symm.trans (by rw [e]; exact pz))
    rw [decide_eq_false this]
    exact iteT (out (o := some "once") s8 (by unfold wrongP; rw [if_neg w1, if_neg w2, if_neg w3, if_neg w4, if_pos e5]))
  rw [decide_eq_true (sorted_one (sorted_pw sy) (sorted_pw sz) (py.trans (e5.trans pz.symm)))]
  obtain ⟨b, rr, rfl, hb⟩ := Tm.dt_parts (ht.same s8)
  have h0 : atI (V.str r.t.hd :: rr) 0 = some (.str r.t.hd) := atI_nat (j := 0) rfl
  have w5 : ¬ ¬ r.t.wordsOf.Perm r.ps := fun z => z e5
  refine iteF (vTx rfl hb h0 ⟨rfl, _, rfl, ?_⟩)
  by_cases en : r.t.hd = "node"
  · obtain ⟨c, ts, ec⟩ := Tm.of_node en
    exact sT en (out (o := none) s8 (by unfold wrongP; rw [if_neg w1, if_neg w2, if_neg w3, if_neg w4, if_neg w5, if_pos (by rw [ec]; rfl)]))
  · have : ¬ (isNd r.t = true) := fun z => en (by
      generalize r.t = tt at z
      cases tt with
      | node c ts => rfl
      | _ => exact nomatch z)
    exact sF en (out (o := some "node") s8 (by unfold wrongP; rw [if_neg w1, if_neg w2, if_neg w3, if_neg w4, if_neg w5, if_neg this]))
end
end PK
namespace PK
open PySem L2 PyProof.Rows
/-! check_pass -/
section
variable {P : Program} {w : World} {K : PySem.W.Frag} {mg : Str → Option Value} {base : Heap}
end
/-- a def that may raise, called by its name -/
structure CalR (P : Program) (w : World) (K : PySem.W.Frag) (mg : Str → Option Value) (base : Heap) (k : Nat) (x : Str) (sp : Sp) : Prop where
  ex : ∃ (f : Addr) (fd : FuncData) (ps : List Str), FnOk P w K mg base (L2.CX P w) k f fd ps sp ∧ mg x = some (.ref f) ∧ PySem.W.keepIn K (.ref f) = true ∧ Binds K fd ps []
section
variable {X : Cx} {k j : Nat} {x : Str} {sp : Sp} {p pos : Pos} {e : Expr} {es : List Expr} {t : TA} {W : WX}
theorem pe_cr (c : CalR X.prog X.w X.K X.mg X.base k x sp) (hr : Room j X.A) (hk : k ≤ j) (hg : Gl X x) (ha : PA X (e :: es) t)
    (hdb : (x == ("__debug__" : Str)) = false := by decide) (he : starEach (e :: es) X.env = (false, eval e X.env) :: starEach es X.env := by rfl) (hpl : (backTo pos (starEach es X.env)).any (·.1) = false := by rfl) :
    PE X (.Call (.Name x p) (e :: es) [] pos) (tCall sp [] C8.E0 t) := by
  obtain ⟨f, fd, ps, F, hm, kp, b⟩ := c.ex
  exact pe_call F (hr.mono hk) hg hm kp b .nil passL ha hdb he hpl
theorem pe_crS (c : CalR X.prog X.w X.K X.mg X.base k x sp) (tk : Takes X W) (hr : Room j X.A) (hk : k ≤ j) (hg : Gl X x) (ha : PA X (e :: es) t)
    (hdb : (x == ("__debug__" : Str)) = false := by decide) (he : starEach (e :: es) X.env = (false, eval e X.env) :: starEach es X.env := by rfl) (hpl : (backTo pos (starEach es X.env)).any (·.1) = false := by rfl) :
    PE X (.Call (.Name x p) (e :: es) [] pos) (tCallS sp (WE W) t) := by
  obtain ⟨f, fd, ps, F, hm, kp, b⟩ := c.ex
  exact pe_callS F (hr.mono hk) hg hm kp b (fun σ => passAt tk σ) ha hdb he hpl
end
theorem valR {v : V} {r : List (Str × V)} : List.lookup ("reason" : Str) ((("reason" : Str), v) :: r) = some v := by simp [List.lookup]
theorem valN {u v : V} : List.lookup ("number" : Str) [(("reason" : Str), v), (("number" : Str), u)] = some u := by
  have e : (("number" : Str) == ("reason" : Str)) = false := by decide +kernel
  simp [List.lookup, e]
theorem DtAll.strs {K : PySem.W.Frag} {H : Hp} : ∀ ss : List Str, DtAll K H (ss.map V.str) (ss.map PyData.str)
  | [] => .nil
  | s :: r => .cons (.str s) (DtAll.strs r)
theorem arOf_snoc (cs : List Con) (y : Con) (w : Str) (h : y.nm ∉ cs.map Con.nm) : arOf (cs ++ [y]) w = if w = y.nm then some y.ar else arOf cs w := by
  unfold arOf
  rw [List.find?_append]
  by_cases e : w = y.nm
  · rw [if_pos e]
    have : cs.find? (fun c => decide (c.nm = w)) = none := List.find?_eq_none.mpr fun c hc z => h (List.mem_map.mpr ⟨c, hc, (of_decide_eq_true z).trans e⟩)
    rw [this]
    simp [e]
  · rw [if_neg e]
    have : [y].find? (fun c => decide (c.nm = w)) = none := List.find?_eq_none.mpr fun c hc z => e (by rw [List.mem_singleton.mp hc] at z; exact (of_decide_eq_true z).symm)
    rw [this]
    cases cs.find? (fun c => decide (c.nm = w)) <;> rfl
theorem NumR.put {kvs : List (Key × V)} {ts : List Con} {i : Nat} {y : Con} (h : NumR kvs (ts.take i)) (e : ts[i]? = some y) (nd : (ts.map Con.nm).Nodup) : NumR (putK kvs (.inr y.nm) (.int (y.ar : Nat))) (ts.take (i + 1)) := fun w => by
  have tk : ts.take (i + 1) = ts.take i ++ [y] := by rw [List.take_add_one, e]; rfl
  have no : y.nm ∉ (ts.take i).map Con.nm := fun z => by
    obtain ⟨r, h1, h2⟩ := List.mem_map.mp z
    obtain ⟨j, hj, ej⟩ := List.getElem_of_mem h1
    rw [List.length_take] at hj
    rw [List.getElem_take] at ej
    have g1 : (ts.map Con.nm)[j]? = some y.nm := by rw [List.getElem?_map, List.getElem?_eq_getElem (by omega), ej]; exact congrArg some h2
    have g2 : (ts.map Con.nm)[i]? = some y.nm := by rw [List.getElem?_map, e]; rfl
    have := (List.getElem?_inj (by rw [List.length_map]; omega) nd).mp (g1.trans g2.symm)
    omega
  rw [tk, arOf_snoc _ _ _ no, valV_put]
  by_cases ew : w = y.nm
  · rw [if_pos (by rw [ew]), if_pos ew]; rfl
  · rw [if_neg (fun z => ew (by first | exact Sum.inr.inj z | exact (Sum.inr.inj z).symm)), if_neg ew]
    exact h w
def fwP (ts : List Con) : Nat → List (Con × Rw) → Option (Nat × Str)
  | _, [] => none
  | i, (c, r) :: rest => match wrongP c ts r with
    | some s => some (i, s)
    | none => fwP ts (i + 1) rest
def chkP (ss ts : List Con) (R : List Rw) : Option (Option Nat × Str) :=
  if R.length ≠ ss.length then some (none, "length") else (fwP ts 0 (ss.zip R)).map fun p => (some p.1, p.2)
def numV : Option Nat → V
  | none => .non
  | some n => .int (n : Nat)
/-- what stands of the rows -/
def RowsV (K : PySem.W.Frag) (H : Hp) (vs : List V) (R : List Rw) : Prop := vs.length = R.length ∧ ∀ (i : Nat) (v : V) (r : Rw), vs[i]? = some v → R[i]? = some r → RowV K H v r
theorem RowsV.same {K : PySem.W.Frag} {H H' : Hp} {vs : List V} {R : List Rw} (h : RowsV K H vs R) (s : Same H H') : RowsV K H' vs R := ⟨h.1, fun i v r h1 h2 => (h.2 i v r h1 h2).same s⟩
def spCheckP (K : PySem.W.Frag) (C : Addr) : Sp := fun vs H Q _ => ∃ (so to p : Addr) (ws : List V) (ss ts : List Con) (R : List Rw), vs = [.ref so, .ref to, .ref p] ∧ Lng K C H so ss ∧ Lng K C H to ts ∧ Sq K H p ws ∧ RowsV K H ws R ∧ (∀ r ∈ R, r.small) ∧ ss.length ≤ 10 ∧ ts.length ≤ 10 ∧ R.length ≤ 10 ∧ (ts.map Con.nm).Nodup ∧ chkP ss ts R = none ∧
  ∀ (H' : Hp) (v : V), Same H H' → Dt K H' v (.tuple (R.map Rw.d)) → Q v H'
section
variable {P : Program} {w : World} {K : PySem.W.Frag} {mg : Str → Option Value} {base : Heap} {aF aR aL C CB : Addr}
abbrev s_check_pass : Stmt := topS 98
theorem sc_check_pass : FnScope ["source", "target", "rows", "numbers", "number", "row", "reason", "constructor", "name", "parameters", "template"] ["source", "target", "rows"] (defScope s_check_pass) := ⟨rfl, rfl, rfl, by decide +kernel, rfl, by decide +kernel, by decide +kernel⟩
-- slots: 0:source 1:target 2:rows 3:numbers 4:number 5:row 6:reason 7:constructor(comp) 8:name(comp) 9:parameters(comp) 10:template(comp)
theorem ok_checkP {f : Addr} {fd : FuncData} (F : Fun K "check_pass" "check_pass" s_check_pass f fd) (T : TxtL K mg aF aR aL) (X : LTx K C) (C_wrong_part_passes : C8.Cal P w K mg base 6 "wrong_part_passes" (spWrong K) []) :
    FnOk P w K mg base CX0 7 f fd ["source", "target", "rows"] (spCheckP K C) := by
  refine F.ok sc_check_pass (fun vs H Q E h => ?_) (fun cdv A outer s H vs Q E hr h => ?_)
  · obtain ⟨_, _, _, _, _, _, _, rfl, _⟩ := h
    rfl
  obtain ⟨so, to, p, ws, ss, ts, R, rfl, hso, hto, hp, hR, sm, l1, l2, l3, nd, hch, q0⟩ := h
  refine ⟨_, (pss_cons (ps_if (pt_cmpR op_ne (pe_callB call_len_seq (by rfl) T.z_len (by decide +kernel) (pa_cons (pv 2) pa_nil)) (pe_callB call_len_seq (by rfl) T.z_len (by decide +kernel) (pa_cons (pe_fld (pv 0) rfl) pa_nil)) (nomark _)) (pss_one ps_never) pss_nil)
    (pss_cons (PKI.ps_setD (i := 3) (own := [("constructor", 7)]) (g := (gName 7)) (tt := tYes) (by rfl) sc_check_pass.nd rfl rfl (PKI.swapsD rfl rfl rfl (by decide +kernel)) (pi_tup (pe_fld (pv 1) rfl)) (blkOk_by (N := ["source", "target", "rows", "numbers", "number", "row", "reason", "constructor", "name", "parameters", "template"]) (sc := defScope s_check_pass) (by decide +kernel)) (fun _ _ _ _ _ => (pg_name (i := 7) sc_check_pass.nd rfl (Or.inl rfl))) (fun _ _ _ _ _ => pts_nil) (fun _ _ _ _ _ => (pe_ix (r := rIxT K) ix_tup (pv 7) pe_int (fun _ _ => rfl))) (fun _ _ _ _ _ => (pe_ix (r := rIxT K) ix_tup (pv 7) pe_int (fun _ _ => rfl))))
    (pss_cons (ps_for PassesOwn.never rfl (PKR.pi_or (pi_enum (by rfl) T.z_enumerate (pa_cons (pv 2) pa_nil)) (PKR.pi_enumT (by rfl) T.z_enumerate (pa_cons (pv 2) pa_nil))) (pg_tup (by rfl) (pgs_cons (pg_name (i := 4) sc_check_pass.nd rfl (Or.inl rfl)) (pgs_cons (pg_name (i := 5) sc_check_pass.nd rfl (Or.inl rfl)) pgs_nil))) (pss_cons (ps_set (i := 6) sc_check_pass.nd rfl (Or.inl rfl) (C8.pe_c C_wrong_part_passes hr (by decide) rfl (pa_cons (pe_ix ix_tup (pe_fld (pv 0) rfl) (pv 4) (fun _ _ => rfl)) (pa_cons (pv 3) (pa_cons (pv 5) pa_nil)))))
    (pss_one (ps_if (pt_cmpR op_notN (pv 6) pe_non (nomark _)) (pss_one ps_never) pss_nil))))
    (pss_one (ps_ret (pe_callTy call_tuple_of (by rfl) T.z_tuple (by decide +kernel) (pa_cons (pe_lc (own := [("name", 8), ("parameters", 9), ("template", 10)]) (g := (gTup K 3 (gCons (gName 8) (gCons (gName 9) (gCons (gName 10) gNil))))) (tt := tYes) (by rfl) sc_check_pass.nd (PKR.pi_or (pi_list (pv 2)) (pi_tup (pv 2))) (blkOk_by (N := ["source", "target", "rows", "numbers", "number", "row", "reason", "constructor", "name", "parameters", "template"]) (sc := defScope s_check_pass) (by decide +kernel)) (fun _ _ _ _ _ => (pg_tup (by rfl) (pgs_cons (pg_name (i := 8) sc_check_pass.nd rfl (Or.inl rfl)) (pgs_cons (pg_name (i := 9) sc_check_pass.nd rfl (Or.inl rfl)) (pgs_cons (pg_name (i := 10) sc_check_pass.nd rfl (Or.inl rfl)) pgs_nil))))) (fun _ _ _ _ _ => pts_nil) (fun _ _ _ _ _ => (pe_tup (pa_cons (pv 8) (pa_cons (pe_callTy (T := "tuple") (r := rTupOf K) call_tuple_of (by rfl) T.z_tuple (by decide +kernel) (pa_cons (pv 9) pa_nil)) (pa_cons (pv 10) pa_nil)))))) pa_nil))))))), ?_⟩
  obtain ⟨dx, cp, tb, ru, _, ho, hd, _⟩ := hso.at_
  obtain ⟨_, us, ecp, hcp, dus⟩ := Dt.tn hd
  cases ecp
  obtain ⟨dx2, tp, tb2, ru2, _, ho2, hd2, _⟩ := hto.at_
  obtain ⟨_, us2, ecp2, htp, dus2⟩ := Dt.tn hd2
  cases ecp2
  have lus : us.length = ss.length := by rw [dus.lenD, List.length_map]
  have lws : ws.length = R.length := hR.1
  refine ⟨_, rfl, p, ws, rfl, hp, _, rfl, so, C, dx, _, _, rfl, ho, X.cl, X.nC, rfl, cp, us, rfl, .inr hcp, rfl, _, rfl, ?_⟩
  by_cases e1 : R.length = ss.length
  case neg =>
    rw [decide_eq_false (show ¬ V.int (ws.length : Nat) = V.int (us.length : Nat) from fun z => e1 (by have := V.int.inj z; omega))]
    exfalso
    unfold chkP at hch
    rw [if_pos e1] at hch
    cases hch
  rw [decide_eq_true (show V.int (ws.length : Nat) = V.int (us.length : Nat) by rw [lws, lus, e1])]
  have ec : chkP ss ts R = (fwP ts 0 (ss.zip R)).map fun p => (some p.1, p.2) := by unfold chkP; rw [if_neg (fun z => z e1)]
  refine iteF ⟨_, rfl, to, C, dx2, _, _, rfl, ho2, X.cl, X.nC, rfl, tp, rfl, ⟨_, htp⟩, fun D hD => dc_tup (K := K) (a := tp) (xs := us2) (fun i H' => ∃ kvs, Same H H' ∧ H' D = some (.dK kvs) ∧ kvs.length ≤ i ∧ NumR kvs (ts.take i)) ?_ ?_ ?_ ?_⟩
  · exact ⟨[], same_new hD, upd_same, Nat.zero_le _, fun w => rfl⟩
  · rintro i H' hi ⟨_, s, _⟩
    exact Same.seqT s htp
  · rintro i x H' gx ⟨kvs, s, hd, lk, nk⟩
    obtain ⟨dd, gd, dx'⟩ := dus2.getX gx
    have hi := (List.getElem?_eq_some_iff.mp gx).1
    have l2' : us2.length = ts.length := by rw [dus2.lenD, List.length_map]
    rw [List.getElem?_map] at gd
    cases e0 : ts[i]? with
    | none => rw [e0] at gd; cases gd
    | some y =>
    rw [e0] at gd
    cases gd
    obtain ⟨ra, rz, rfl, hs⟩ := Con.get (dx'.same s)
    have lz := length_putK kvs (.inr y.nm) (V.int (y.ar : Nat))
    exact ⟨rfl, yes_ (vTx rfl hs rfl (vTx rfl hs rfl ⟨kvs, .inr y.nm, rfl, hd, smallL (by omega), _, Same.upd s hD, upd_same, by omega, nk.put e0 nd⟩))⟩
  rintro H3 ⟨kvs, s3, hd3, _, nk⟩
  have l2' : us2.length = ts.length := by rw [dus2.lenD, List.length_map]
  rw [l2', List.take_length] at nk
  have hp3 := hp.same s3
  have lz : (ss.zip R).length = R.length := by rw [List.length_zip]; omega
  refine for_enum (H0 := H3) hp3 rfl (fun i σ H' => ∃ a b c, σ = [some (.ref so), some (.ref to), some (.ref p), some (.ref D), a, b, c, none, none, none, none] ∧ Same H3 H' ∧ fwP ts 0 (ss.zip R) = fwP ts i ((ss.zip R).drop i)) ?_ (fun i σ H' _ h => ?_) ?_ ?_
  · exact ⟨_, _, _, rfl, Same.refl H3, rfl⟩
  · obtain ⟨_, _, _, _, h, _⟩ := h
    exact h
  · rintro i v σ H' t gv ⟨a, b, c, rfl, sm', ef⟩ ht
    have hi : i < R.length := by
      have := (List.getElem?_eq_some_iff.mp gv).1
      omega
    have gr : R[i]? = some R[i] := List.getElem?_eq_getElem hi
    have his : i < ss.length := by omega
    have gs : ss[i]? = some ss[i] := List.getElem?_eq_getElem his
    obtain ⟨cv, gc, dcv⟩ := dus.getD (i := i) (d := ss[i].d) (by rw [List.getElem?_map, gs]; rfl)
    have s1 : Same H (upd H' t (.tup [.int (i : Nat), v])) := s3.trans (Same.upd sm' (sm'.free ht))
    have hd1 : (upd H' t (.tup [.int (i : Nat), v])) D = some (.dK kvs) := (Same.upd sm' (sm'.free ht)) _ _ hd3
    refine ⟨t, _, rfl, SqT.of upd_same, rfl, _, _, rfl, _, _, rfl, rfl, ?_⟩
    refine ⟨_, rfl, so, C, dx, _, _, rfl, s1 _ _ ho, X.cl, X.nC, rfl, _, rfl, cp, us, (i : Int), cv, rfl, rfl, Same.seqT s1 hcp, atI_nat gc, _, rfl, _, rfl, cv, v, D, ss[i], kvs, ts, R[i], rfl, dcv.same s1, hd1, nk, (hR.2 i v _ gv gr).same s1, sm _ (List.getElem_mem hi), fun H2 s2 => ?_⟩
    have dr : (ss.zip R).drop i = (ss[i], R[i]) :: (ss.zip R).drop (i + 1) := by
      rw [List.drop_eq_getElem_cons (by omega), List.getElem_zip]
    have s2' : Same H H2 := s1.trans s2
    rw [dr] at ef
    have fc : fwP ts i ((ss[i], R[i]) :: (ss.zip R).drop (i + 1)) = match wrongP ss[i] ts R[i] with
      | some s => some (i, s)
      | none => fwP ts (i + 1) ((ss.zip R).drop (i + 1)) := rfl
    rw [fc] at ef
    cases e2 : wrongP ss[i] ts R[i] with
    | some z =>
      rw [e2] at ef
      exfalso
      rw [ec, show fwP ts 0 (ss.zip R) = some (i, z) from ef] at hch
      cases hch
    | none =>
      rw [e2] at ef
      exact ⟨_, rfl, rfl, _, rfl, iteF ⟨_, _, _, rfl, (Same.upd sm' (sm'.free ht)).trans s2, ef⟩⟩
  · rintro σ H4 ⟨a, b, c, rfl, s4, ef⟩
    rw [lws, ← lz, List.drop_length] at ef
    have ef2 : fwP ts 0 (ss.zip R) = none := ef
    have s4' := s3.trans s4
    refine seq_it (hp.same s4') rfl fun J G wk hG D4 hD4 => lcS (K := K) wk hD4 (by omega) (fun ds => ds = (R.take ds.length).map Rw.d) rfl hG ?_ ?_
    · rintro i x H5 H5 ds Rr hi s5 ⟨rfl, gx⟩ jd len k
      have hi : i < R.length := by omega
      have gr : R[i]? = some R[i] := List.getElem?_eq_getElem hi
      obtain ⟨a5, p5, t5, rfl, hs5, hp5, ht5⟩ := (hR.2 i x _ gx gr).same (s4'.trans s5)
      refine ⟨a5, _, rfl, hs5, rfl, _, _, rfl, _, _, rfl, _, _, rfl, rfl, rfl, ?_⟩
      have fin : ∀ (H6 : Hp) (pt qt : Addr), Same H5 H6 → SqT K H6 pt (R[i].ps.map V.str) → H6 qt = none → Rr (.ref qt) (upd H6 qt (.tup [.str R[i].nm, .ref pt, t5])) := fun H6 pt qt s6 hpt hq => by
        refine k R[i].d _ _ (Same.upd s6 (s6.free hq)) ?_ ?_
        · unfold Rw.d
          exact Dt.mk3 hq (.str _) (.tup hpt (DtAll.strs _)) (ht5.same s6)
        · rw [List.length_append, len, show i + [R[i].d].length = i + 1 from rfl, List.take_add_one, gr, List.map_append]
          rw [len] at jd
          rw [← jd]; rfl
      refine ⟨_, rfl, _, rfl, p5, R[i].ps.map V.str, rfl, ?_⟩
      rcases hp5 with h | h
      · exact .inl ⟨h, fun l hl => ⟨_, rfl, small (by show 3 ≤ _; decide), fun qt hqt => fin _ _ _ (same_new hl) (SqT.of upd_same) hqt⟩⟩
      · exact .inr ⟨h, _, rfl, small (by show 3 ≤ _; decide), fun qt hqt => fin _ _ _ (Same.refl _) h hqt⟩
    rintro H5 vs ds s5 hvs da len jd
    rw [len, lws, List.take_length] at jd
    subst jd
    exact ⟨D4, _, rfl, .inl ⟨SqL.of hvs, fun pt hpt => q0 _ _ ((s4'.trans s5).trans (same_new hpt)) (.tup (SqT.of upd_same) (da.same (same_new hpt)))⟩⟩
end
end PK
namespace PK
open PySem L2
/-! values, and what stands inside of terms -/
def sk (cs : List Con) : Tm → List Tm
  | .node c ts => match conOf cs c with
    | some x => x.pl.filterMap fun p : Int => ts[p.toNat]?
    | none => []
  | _ => []
theorem sk_node {cs : List Con} {c : Str} {x : Con} (h : conOf cs c = some x) (ts : List Tm) : sk cs (.node c ts) = x.pl.filterMap fun p : Int => ts[p.toNat]? := by
  show (match conOf cs c with | some x => x.pl.filterMap fun p : Int => ts[p.toNat]? | none => []) = _
  rw [h]
theorem sk_kid {cs : List Con} {t k : Tm} (h : k ∈ sk cs t) : k ∈ t.kids := by
  cases t with
  | node c ts =>
    cases e : conOf cs c with
    | none =>
      have : sk cs (.node c ts) = [] := by
        show (match conOf cs c with | some x => x.pl.filterMap fun p : Int => ts[p.toNat]? | none => []) = _
        rw [e]
      rw [this] at h; cases h
    | some x =>
      rw [sk_node e] at h
      obtain ⟨p, _, hp⟩ := List.mem_filterMap.mp h
      exact List.mem_of_getElem? hp
  | int _ => cases h
  | name _ => cases h
  | addr _ => cases h
  | var _ => cases h
  | map _ => cases h
  | form _ _ => cases h
def knd (cs : List Con) : Tm → Bool
  | .node c _ => match conOf cs c with | some x => decide (x.kd = "value") | none => true
  | _ => true
theorem knd_node {cs : List Con} {c : Str} {x : Con} (h : conOf cs c = some x) (ts : List Tm) : knd cs (.node c ts) = decide (x.kd = "value") := by
  show (match conOf cs c with | some x => decide (x.kd = "value") | none => true) = _
  rw [h]
def vl (cs : List Con) (t : Tm) : Bool := knd cs t && ((sk cs t).attach.map fun k => vl cs k.1).all id
termination_by sizeOf t
decreasing_by exact Tm.kid_lt (sk_kid k.2)
theorem vl_eq (cs : List Con) (t : Tm) : vl cs t = (knd cs t && (sk cs t).all (vl cs)) := by
  rw [vl, List.attach_map_val (f := vl cs), List.all_map]; rfl
def inn (cs : List Con) (t : Tm) : Option Tm := (sk cs t).find? fun k => !vl cs k
theorem inn_kid {cs : List Con} {t u : Tm} (h : inn cs t = some u) : u ∈ t.kids ∧ vl cs u = false := by
  have h1 := List.mem_of_find?_eq_some h
  have h2 := List.find?_some h
  exact ⟨sk_kid h1, by simpa using h2⟩
theorem vl_nd {cs : List Con} {t : Tm} (h : vl cs t = false) : ∃ c ts, t = .node c ts := by
  cases t with
  | node c ts => exact ⟨c, ts, rfl⟩
  | _ => rw [vl_eq] at h; cases h
def standN (cs : List Con) : Nat → Tm → Tm
  | 0, t => t
  | n + 1, t => match inn cs t with | none => t | some u => standN cs n u
/-- places of the target by places of the source -/
inductive PlR (os : List Nat) : List Int → List Int → Prop
  | nil : PlR os [] []
  | cons {p : Int} {j : Nat} {r s : List Int} : os[j]? = some p.toNat → PlR os r s → PlR os (p :: r) (((j : Nat) : Int) :: s)
theorem PlR.snoc {os : List Nat} : ∀ {r s : List Int} {p : Int} {j : Nat}, PlR os r s → os[j]? = some p.toNat → PlR os (r ++ [p]) (s ++ [((j : Nat) : Int)])
  | _, _, _, _, .nil, h => .cons h .nil
  | _, _, _, _, .cons a b, h => .cons a (b.snoc h)
theorem PlR.len {os : List Nat} : ∀ {r s : List Int}, PlR os r s → r.length = s.length
  | _, _, .nil => rfl
  | _, _, .cons _ b => by rw [List.length_cons, List.length_cons, b.len]
theorem PlR.mem {os : List Nat} : ∀ {r s : List Int}, PlR os r s → ∀ q ∈ s, ∃ (p : Int) (j : Nat), p ∈ r ∧ q = ((j : Nat) : Int) ∧ os[j]? = some p.toNat
  | _, _, .cons (p := p) (j := j) a b, q, hq => by
    rcases List.mem_cons.mp hq with rfl | hq
    · exact ⟨p, j, List.mem_cons_self, rfl, a⟩
    · obtain ⟨p', j', h1, h2, h3⟩ := b.mem q hq
      exact ⟨p', j', List.mem_cons_of_mem _ h1, h2, h3⟩
theorem PlR.ok {os : List Nat} {m : Nat} (lo : os.length = m) : ∀ {r s : List Int}, PlR os r s → r.Nodup → (∀ p ∈ r, 0 ≤ p) → s.Nodup ∧ ∀ q ∈ s, 0 ≤ q ∧ q < (m : Int)
  | _, _, .nil, _, _ => ⟨List.nodup_nil, fun q hq => absurd hq List.not_mem_nil⟩
  | _, _, .cons (p := p) (j := j) (r := r) (s := s) a b, nd, h0 => by
    rw [List.nodup_cons] at nd
    obtain ⟨i1, i2⟩ := b.ok lo nd.2 fun p hp => h0 p (List.mem_cons_of_mem _ hp)
    have hj := (List.getElem?_eq_some_iff.mp a).1
    refine ⟨List.nodup_cons.mpr ⟨fun hq => ?_, i1⟩, fun q hq => ?_⟩
    · obtain ⟨p', j', h1, h2, h3⟩ := b.mem _ hq
      have : j = j' := by omega
      subst this
      rw [a] at h3
      have h4 := Option.some.inj h3
      have p0 := h0 p List.mem_cons_self
      have p1 := h0 p' (List.mem_cons_of_mem _ h1)
      have : p = p' := by omega
      subst this
      exact nd.1 h1
    · rcases List.mem_cons.mp hq with rfl | hq
      · omega
      · exact i2 q hq
/-- the parts at the places -/
theorem PlR.sk {os : List Nat} {α : Type} {f : Nat → α} : ∀ {r s : List Int}, PlR os r s → s.filterMap (fun p : Int => (os.map f)[p.toNat]?) = r.map fun p : Int => f p.toNat
  | _, _, .nil => rfl
  | _, _, .cons (p := p) (j := j) a b => by
    rw [List.filterMap_cons, show (((j : Nat) : Int)).toNat = j from rfl, List.getElem?_map, a, List.map_cons, ← b.sk (f := f)]; rfl
def wrapT (kd : Str) (wr : Bool) (t : Tm) : Tm := if wr = true then .node (if kd = "value" then "yvalue" else "yplain") [t] else t
def yP : Con := ⟨"yplain", 1, "plain", [0]⟩
def yV : Con := ⟨"yvalue", 1, "value", [0]⟩
/-- a target's constructor and row -/
structure One (c x : Con) (r : Rw) (os vs : List Nat) (wr : Bool) : Prop where
  nm : x.nm = c.nm
  ar : x.ar = c.ar
  kd : x.kd = c.kd
  pl : PlR os c.pl x.pl
  hos : os.Perm (List.range c.ar)
  hvs : vs.Perm (List.range c.ar)
  rn : r.nm = c.nm
  wl : r.ps.length = c.ar
  wn : r.ps.Nodup
  ww : ∀ w ∈ r.ps, Wd w
  t : r.t = wrapT c.kd wr (.node c.nm (vs.map fun q => .var (r.ps.getD q "")))
theorem look_zip_at {α : Type} : ∀ {ps : List Str} {l : List α} {q : Nat} {s : Str} {a : α}, ps.Nodup → ps[q]? = some s → l[q]? = some a → lookA (ps.zip l) s = some a
  | [], _, q, s, a, _, h, _ => by simp at h
  | _ :: _, [], q, s, a, _, _, h => by simp at h
  | p :: ps, x :: l, 0, s, a, nd, h1, h2 => by
    simp at h1 h2
    subst h1; subst h2
    rw [List.zip_cons_cons, lookA_cons]
    have : lookA (ps.zip l) p = none := by
      rw [List.nodup_cons] at nd
      have n := nd.1
      clear nd
      induction ps generalizing l with
      | nil => rfl
      | cons y ps ih =>
        cases l with
        | nil => rfl
        | cons z l =>
          rw [List.zip_cons_cons, lookA_cons, ih (l := l) (fun hh => n (List.mem_cons_of_mem _ hh))]
          have : ¬ y = p := fun e => n (by rw [e]; exact List.mem_cons_self)
          simp [this]
    rw [this]; simp
  | p :: ps, x :: l, q + 1, s, a, nd, h1, h2 => by
    rw [List.nodup_cons] at nd
    rw [List.zip_cons_cons, lookA_cons, look_zip_at nd.2 (by simpa using h1) (by simpa using h2)]
/-- the target of a source -/
structure Tg (cs ds : List Con) (R : List Rw) : Prop where
  all : ∀ c ∈ cs, ∃ x r os wr, conOf ds c.nm = some x ∧ rowOf R c.nm = some r ∧ One c x r os os wr
  yp : conOf ds "yplain" = some yP
  yv : conOf ds "yvalue" = some yV
  nd : (cs.map Con.nm).Nodup
  pl : ∀ c ∈ cs, ∀ p ∈ c.pl, 0 ≤ p ∧ p < (c.ar : Int)
def kidAt (T : Tm → Tm) (ts : List Tm) (q : Nat) : Tm := ((ts[q]?).map T).getD (.int 0)
theorem Tg.trans {cs ds : List Con} {R : List Rw} (g : Tg cs ds R) {c : Con} (hc : c ∈ cs) {ts : List Tm} (hl : ts.length = c.ar) : ∃ x os wr, conOf ds c.nm = some x ∧ PlR os c.pl x.pl ∧ x.kd = c.kd ∧ (Tm.node c.nm ts).trans R = wrapT c.kd wr (.node c.nm (os.map (kidAt (Tm.trans R) ts))) := by
  obtain ⟨x, r, os, wr, h1, h2, o⟩ := g.all c hc
  refine ⟨x, os, wr, h1, o.pl, o.kd, ?_⟩
  rw [trans_node h2, o.t]
  have inner : (Tm.node c.nm (os.map fun q => Tm.var (r.ps.getD q ""))).fill (r.ps.zip (ts.map (Tm.trans R))) = .node c.nm (os.map (kidAt (Tm.trans R) ts)) := by
    rw [fill_node, List.map_map]
    congr 1
    refine List.map_congr_left fun q hq => ?_
    have hq : q < c.ar := by simpa using (o.hos.mem_iff.mp hq)
    have e1 : r.ps[q]? = some (r.ps.getD q "") := by
      rw [List.getD_eq_getElem?_getD, List.getElem?_eq_getElem (by rw [o.wl]; exact hq)]; rfl
    have e2 : (ts.map (Tm.trans R))[q]? = some (kidAt (Tm.trans R) ts q) := by
      unfold kidAt
      rw [List.getElem?_map, List.getElem?_eq_getElem (by omega)]; rfl
    show (Tm.var (r.ps.getD q "")).fill _ = _
    rw [fill_var, look_zip_at o.wn e1 e2]; rfl
  cases wr with
  | true =>
    show (Tm.node _ [_]).fill _ = Tm.node _ [_]
    rw [fill_node, List.map_cons, List.map_nil, inner]
  | false => exact inner
theorem Tg.sk {cs ds : List Con} {R : List Rw} (g : Tg cs ds R) {c x : Con} (hc : c ∈ cs) {ts : List Tm} (hl : ts.length = c.ar) {os : List Nat} (hx : conOf ds c.nm = some x) (pr : PlR os c.pl x.pl) :
    sk ds (.node c.nm (os.map (kidAt (Tm.trans R) ts))) = (sk cs (.node c.nm ts)).map (Tm.trans R) := by
  rw [sk_node hx, sk_node (conOf_mem g.nd hc), pr.sk]
  have : ∀ l : List Int, (∀ p ∈ l, 0 ≤ p ∧ p < (c.ar : Int)) → l.map (fun p => kidAt (Tm.trans R) ts p.toNat) = (l.filterMap fun p : Int => ts[p.toNat]?).map (Tm.trans R) := fun l => by
    induction l with
    | nil => exact fun _ => rfl
    | cons p l ih =>
      intro h
      have hp := h p List.mem_cons_self
      rw [List.map_cons, List.filterMap_cons, ih fun q hq => h q (List.mem_cons_of_mem _ hq)]
      unfold kidAt
      rw [List.getElem?_eq_getElem (by omega)]; rfl
  exact this _ (g.pl c hc)
/-- terms over the source -/
def prN (cs : List Con) (t : Tm) : Prop := ∀ c ts, t = .node c ts → ∃ x ∈ cs, x.nm = c ∧ x.ar = ts.length
theorem skY {ds : List Con} {R : List Rw} {cs : List Con} (g : Tg cs ds R) (kd : Str) (t : Tm) : sk ds (wrapT kd true t) = [t] ∧ knd ds (wrapT kd true t) = decide (kd = "value") := by
  show sk ds (.node (if kd = "value" then "yvalue" else "yplain") [t]) = [t] ∧ knd ds (.node (if kd = "value" then "yvalue" else "yplain") [t]) = decide (kd = "value")
  by_cases e : kd = "value"
  · rw [if_pos e, sk_node g.yv, knd_node g.yv, decide_eq_true e]; exact ⟨rfl, rfl⟩
  · rw [if_neg e, sk_node g.yp, knd_node g.yp, decide_eq_false e]; exact ⟨rfl, by decide +kernel⟩
theorem Tg.vl {cs ds : List Con} {R : List Rw} (g : Tg cs ds R) {t : Tm} (h : Al (prN cs) t) : vl ds (t.trans R) = vl cs t := by
  induction t using Tm.ind with
  | h t ih =>
    cases t with
    | node c ts =>
      obtain ⟨con, hc, rfl, hl⟩ := h.at_ c ts rfl
      obtain ⟨x, os, wr, hx, pr, hk, e⟩ := g.trans hc hl.symm
      have s1 := g.sk hc hl.symm hx pr
      have base : PK.vl ds (.node con.nm (os.map (kidAt (Tm.trans R) ts))) = PK.vl cs (.node con.nm ts) := by
        rw [vl_eq, vl_eq cs, s1, knd_node hx, knd_node (conOf_mem g.nd hc), hk, List.all_map]
        congr 1
        have : ∀ k ∈ PK.sk cs (.node con.nm ts), (PK.vl ds ∘ Tm.trans R) k = PK.vl cs k := fun k hk => ih k (sk_kid hk) (h.kid (sk_kid hk))
        generalize PK.sk cs (.node con.nm ts) = l at this
        induction l with
        | nil => rfl
        | cons a l ihl => rw [List.all_cons, List.all_cons, this a List.mem_cons_self, ihl fun k hk => this k (List.mem_cons_of_mem _ hk)]
      rw [e]
      cases wr with
      | false => exact base
      | true =>
        obtain ⟨y1, y2⟩ := skY g con.kd (.node con.nm (os.map (kidAt (Tm.trans R) ts)))
        rw [vl_eq, y1, y2, List.all_cons, List.all_nil, Bool.and_true, base]
        by_cases z : con.kd = "value"
        · rw [decide_eq_true z, Bool.true_and]
        · rw [decide_eq_false z, Bool.false_and, vl_eq, knd_node (conOf_mem g.nd hc), decide_eq_false z, Bool.false_and]
    | map es => rw [trans_map, vl_eq, vl_eq]; rfl
    | form f ts => rw [trans_form, vl_eq, vl_eq]; rfl
    | var s => rw [trans_var]; rw [vl_eq, vl_eq]; rfl
    | int n => rw [Tm.trans_eq, vl_eq, vl_eq]; rfl
    | name n => rw [Tm.trans_eq, vl_eq, vl_eq]; rfl
    | addr n => rw [Tm.trans_eq, vl_eq, vl_eq]; rfl
/-- a way inward -/
inductive Path (ds : List Con) : Nat → Tm → Tm → Prop
  | zero (a : Tm) : Path ds 0 a a
  | step {n : Nat} {a u b : Tm} : (∃ c ts, a = .node c ts) → inn ds a = some u → Path ds n u b → Path ds (n + 1) a b
theorem find_map {α β : Type} {f : α → β} {p : β → Bool} {q : α → Bool} : ∀ {l : List α}, (∀ a ∈ l, p (f a) = q a) → (l.map f).find? p = (l.find? q).map f
  | [], _ => rfl
  | a :: l, h => by
    rw [List.map_cons, List.find?_cons, List.find?_cons, h a List.mem_cons_self]
    cases q a with
    | true => rfl
    | false => exact find_map fun b hb => h b (List.mem_cons_of_mem _ hb)
theorem Tg.path {cs ds : List Con} {R : List Rw} (g : Tg cs ds R) : ∀ (n : Nat) {t : Tm}, Al (prN cs) t → PK.vl cs t = false → ∃ m, m ≤ 2 * (t.ht - 1) ∧ Path ds m (t.trans R) ((standN cs n t).trans R)
  | 0, t, _, _ => ⟨0, Nat.zero_le _, .zero _⟩
  | n + 1, t, h, hv => by
    show ∃ m, m ≤ 2 * (t.ht - 1) ∧ Path ds m (t.trans R) ((match inn cs t with | none => t | some u => standN cs n u).trans R)
    cases ei : inn cs t with
    | none => exact ⟨0, Nat.zero_le _, .zero _⟩
    | some u =>
      obtain ⟨hk, hu⟩ := inn_kid ei
      obtain ⟨m, hm, pa⟩ := g.path n (h.kid hk) hu
      have hht := Tm.ht_kid hk
      have hup := u.ht_pos
      obtain ⟨c, ts, rfl⟩ := vl_nd hv
      obtain ⟨con, hc, rfl, hl⟩ := h.at_ c ts rfl
      obtain ⟨x, os, wr, hx, pr, hkd, e⟩ := g.trans hc hl.symm
      have s1 := g.sk hc hl.symm hx pr
      have i1 : inn ds (.node con.nm (os.map (kidAt (Tm.trans R) ts))) = some (u.trans R) := by
        unfold inn
        rw [s1, find_map (q := fun k => !PK.vl cs k) fun a ha => by rw [g.vl (h.kid (sk_kid ha))]]
        show (inn cs (.node con.nm ts)).map _ = _
        rw [ei]; rfl
      have one : Path ds (m + 1) (.node con.nm (os.map (kidAt (Tm.trans R) ts))) ((standN cs n u).trans R) := .step ⟨_, _, rfl⟩ i1 pa
      show ∃ m, m ≤ 2 * ((Tm.node con.nm ts).ht - 1) ∧ Path ds m ((Tm.node con.nm ts).trans R) ((standN cs n u).trans R)
      have gv := g.vl h
      rw [e] at gv ⊢
      cases wr with
      | false => exact ⟨m + 1, by omega, one⟩
      | true =>
        obtain ⟨y1, y2⟩ := skY g con.kd (.node con.nm (os.map (kidAt (Tm.trans R) ts)))
        refine ⟨m + 2, by omega, .step ⟨_, _, rfl⟩ ?_ one⟩
        unfold inn
        rw [y1, List.find?_cons]
        have hX : PK.vl ds (.node con.nm (os.map (kidAt (Tm.trans R) ts))) = false := by
          cases z : PK.vl ds (.node con.nm (os.map (kidAt (Tm.trans R) ts))) with
          | false => rfl
          | true =>
            exfalso
            obtain ⟨u', hu', _⟩ : ∃ u', inn ds (.node con.nm (os.map (kidAt (Tm.trans R) ts))) = some u' ∧ True := ⟨_, i1, trivial⟩
            have h2 := List.mem_of_find?_eq_some hu'
            have h3 := List.find?_some hu'
            rw [vl_eq, Bool.and_eq_true, List.all_eq_true] at z
            rw [z.2 u' h2] at h3
            cases h3
        rw [hX]; rfl
end PK
namespace PK
open PySem L2
/-! rows that are right -/
theorem Tm.parts_all (p : Tm → Bool) (t : Tm) : t.parts.all p = (p t && t.kids.all fun k => k.parts.all p) := by
  rw [Tm.parts_eq, List.all_cons, List.all_flatten, List.all_map]; rfl
theorem Tm.parts_any (p : Tm → Bool) (t : Tm) : t.parts.any p = (p t || t.kids.any fun k => k.parts.any p) := by
  rw [Tm.parts_eq, List.any_cons, List.any_flatten, List.any_map]; rfl
theorem Tm.words_eq (t : Tm) : t.wordsOf = (vW t).toList ++ (t.kids.map Tm.wordsOf).flatten := by
  have h : ∀ l : List Tm, ((l.map Tm.parts).flatten).filterMap vW = (l.map Tm.wordsOf).flatten := fun l => by
    induction l with
    | nil => rfl
    | cons a r ih => rw [List.map_cons, List.map_cons, List.flatten_cons, List.flatten_cons, List.filterMap_append, ih]; rfl
  unfold Tm.wordsOf
  rw [Tm.parts_eq, List.filterMap_cons]
  cases e : vW t with
  | none => exact h _
  | some s => show s :: _ = [s] ++ _; rw [h]; rfl
theorem al_all {p : Tm → Prop} {b : Tm → Bool} {t : Tm} (h : Al p t) (k : ∀ t, p t → b t = true) : t.parts.all b = true := by
  induction t using Tm.ind with
  | h t ih =>
    rw [Tm.parts_all, k t h.at_, Bool.true_and]
    exact List.all_eq_true.mpr fun x hx => ih x hx (h.kid hx)
theorem al_any {p : Tm → Prop} {b : Tm → Bool} {t : Tm} (h : Al p t) (k : ∀ t, p t → b t = false) : t.parts.any b = false := by
  induction t using Tm.ind with
  | h t ih =>
    rw [Tm.parts_any, k t h.at_, Bool.false_or]
    exact List.any_eq_false.mpr fun x hx => by rw [ih x hx (h.kid hx)]; exact fun z => nomatch z
theorem al_mem {p : Tm → Prop} {t : Tm} (h : Al p t) : ∀ k ∈ t.parts, p k := by
  induction t using Tm.ind with
  | h t ih =>
    intro k hk
    rw [Tm.parts_eq] at hk
    rcases List.mem_cons.mp hk with rfl | hk
    · exact h.at_
    · obtain ⟨l, hl, hk⟩ := List.mem_flatten.mp hk
      obtain ⟨x, hx, rfl⟩ := List.mem_map.mp hl
      exact ih x hx (h.kid hx) k hk
theorem tot_words (s : Str) (t : Tm) : t.tot (fO s) = t.wordsOf.count s := by
  induction t using Tm.ind with
  | h t ih =>
    rw [Tm.tot_eq, Tm.words_eq, List.count_append]
    have h1 : fO s t = (vW t).toList.count s := by
      cases t with
      | var u =>
        show (if u = s then 1 else 0) = [u].count s
        rw [List.count_cons, List.count_nil]
        by_cases e : u = s
        · rw [if_pos e, if_pos (by rw [e]; exact beq_self_eq_true _)]
        · rw [if_neg e, if_neg (fun z => e (eq_of_beq z))]
      | _ => rfl
    have h2 : ∀ l : List Tm, (∀ k ∈ l, k.tot (fO s) = k.wordsOf.count s) → (l.map (Tm.tot (fO s))).sum = ((l.map Tm.wordsOf).flatten).count s := fun l => by
      induction l with
      | nil => exact fun _ => rfl
      | cons a r ih2 =>
        intro h
        rw [List.map_cons, List.map_cons, List.sum_cons, List.flatten_cons, List.count_append, h a List.mem_cons_self, ih2 fun k hk => h k (List.mem_cons_of_mem _ hk)]
    rw [h1, h2 t.kids ih]
/-- few kids, no forms -/
def fK (n : Nat) (t : Tm) : Prop := t.kids.length ≤ n ∧ ∀ f ts, t ≠ .form f ts
/-- a row that is right -/
structure RG (ts : List Con) (con : Con) (r : Rw) : Prop where
  nm : r.nm = con.nm
  ps : okPs con.ar r.ps = true
  hd : r.t.parts.all (headOk ts) = true
  mp : r.t.parts.any isMp = false
  pm : r.t.wordsOf.Perm r.ps
  nd : isNd r.t = true
  l6 : con.ar ≤ 6
  kd : Al (fK 6) r.t
  sz : r.t.size ≤ 48
  ht : r.t.ht ≤ 12
theorem okPs.of {m : Nat} {ps : List Str} (h : okPs m ps = true) : ps.length = m ∧ (∀ p ∈ ps, isWd p = true) ∧ ps.Nodup := of_decide_eq_true h
theorem isWd_len {x : Str} (h : isWd x = true) : x.length ≤ 12 := by
  unfold isWd at h
  exact (of_decide_eq_true (Bool.and_eq_true_iff.mp h).1).2
theorem RG.none {ts : List Con} {con : Con} {r : Rw} (g : RG ts con r) : wrongP con ts r = .none := by
  unfold wrongP
  rw [if_neg (fun z => z g.nm), if_neg (by rw [g.ps]; exact fun z => nomatch z), if_neg (by rw [g.hd]; exact fun z => nomatch z), if_neg (by rw [g.mp]; exact fun z => nomatch z), if_neg (fun z => z g.pm), if_pos g.nd]
theorem small_of {ps : List Str} {nm : Str} {t : Tm} (h1 : ps.length ≤ 20) (h2 : ∀ x ∈ ps, x.length ≤ 100) (h3 : t.size ≤ 1000) (h4 : Al (fK 7) t) (h5 : t.wordsOf.length < 64) (h6 : ∀ x ∈ t.wordsOf, isWd x = true) : Rw.small ⟨nm, ps, t⟩ :=
  ⟨h1, h2, h3, fun k hk => by have := (al_mem h4 k hk).1; omega, h5, h6⟩
theorem fK.more {n m : Nat} (h : n ≤ m) {t : Tm} (a : Al (fK n) t) : Al (fK m) t := Al.imp (fun t x => ⟨Nat.le_trans x.1 h, x.2⟩) a
theorem RG.small {ts : List Con} {con : Con} {r : Rw} (g : RG ts con r) : r.small := by
  obtain ⟨h1, h2, h3⟩ := okPs.of g.ps
  have := g.l6
  have := g.sz
  exact small_of (nm := r.nm) (by omega) (fun x hx => by have := isWd_len (h2 x hx); omega) (by omega) (fK.more (by decide) g.kd) (by rw [g.pm.length_eq]; omega) fun x hx => h2 x (g.pm.mem_iff.mp hx)
theorem arOf_of {ts : List Con} (nd : (ts.map Con.nm).Nodup) {x : Con} (hx : x ∈ ts) : arOf ts x.nm = some x.ar := by
  induction ts with
  | nil => cases hx
  | cons y r ih =>
    rw [List.map_cons, List.nodup_cons] at nd
    unfold arOf
    rw [List.find?_cons]
    by_cases e : y.nm = x.nm
    · rw [decide_eq_true e]
      rcases List.mem_cons.mp hx with rfl | h
      · rfl
      · exact absurd (List.mem_map.mpr ⟨x, h, e.symm⟩) nd.1
    · rw [decide_eq_false e]
      rcases List.mem_cons.mp hx with rfl | h
      · exact absurd rfl e
      · exact ih nd.2 h
theorem arOf_no {ts : List Con} {w : Str} (h : ∀ x ∈ ts, x.nm ≠ w) : arOf ts w = none := by
  unfold arOf
  rw [List.find?_eq_none.mpr fun c hc z => h c hc (of_decide_eq_true z)]; rfl
theorem RG.of {ts : List Con} {con : Con} {r : Rw} (nd : (ts.map Con.nm).Nodup) (h1 : rwOk r) (h2 : rwM ts r) (e1 : r.nm = con.nm) (e2 : r.ps.length = con.ar) (l6 : con.ar ≤ 6) : RG ts con r := by
  obtain ⟨a1, a2, ⟨c, us, a3⟩, a4⟩ := h1
  obtain ⟨b1, b2, b3, b4⟩ := h2
  have hh : Al (fun t => tplN r.ps t ∧ conN ts t) r.t := by
    have both : ∀ {t : Tm}, tplOk r.ps t → conOk ts t → Al (fun t => tplN r.ps t ∧ conN ts t) t := fun {t} => by
      induction t using Tm.ind with
      | h t ih => exact fun x y => .mk ⟨x.at_, y.at_⟩ fun k hk => ih k hk (x.kid hk) (y.kid hk)
    exact both a1 b1
  have w := b2.w
  have sz := size_fW a1
  refine ⟨e1, decide_eq_true ⟨e2, fun p hp => (b4 p hp).is, b3⟩, al_all hh fun t x => ?_, al_any hh fun t x => ?_, List.perm_iff_count.mpr fun s => by rw [← tot_words]; exact b2.o s, by rw [a3]; rfl, l6, Al.imp (fun t x => ⟨x.1.1, x.1.2.2.1⟩) hh, by omega, a2⟩
  · cases t with
    | node c vs =>
      obtain ⟨y, hy, rfl, e⟩ := x.2 c vs rfl
      exact decide_eq_true (by rw [arOf_of nd hy, e])
    | form f vs => exact absurd rfl (x.1.2.2.1 f vs)
    | _ => rfl
  · cases t with
    | map es => exact absurd rfl (x.1.2.2.2 es)
    | _ => rfl
theorem fw_good {ts : List Con} : ∀ {ss : List Con} {R : List Rw} (i0 : Nat), (∀ (i : Nat) (c : Con) (r : Rw), ss[i]? = some c → R[i]? = some r → wrongP c ts r = none) → fwP ts i0 (ss.zip R) = none
  | [], _, _, _ => by rw [List.zip_nil_left]; rfl
  | _ :: _, [], _, _ => by rw [List.zip_nil_right]; rfl
  | c :: ss, r :: R, i0, h => by
    rw [List.zip_cons_cons]
    show (match wrongP c ts r with | some s => some (i0, s) | none => fwP ts (i0 + 1) (ss.zip R)) = none
    rw [h 0 c r rfl rfl]
    exact fw_good (i0 + 1) fun i c' r' h1 h2 => h (i + 1) c' r' (by rw [List.getElem?_cons_succ]; exact h1) (by rw [List.getElem?_cons_succ]; exact h2)
structure RGs (ss ts : List Con) (R : List Rw) : Prop where
  len : R.length = ss.length
  g : ∀ (i : Nat) (c : Con) (r : Rw), ss[i]? = some c → R[i]? = some r → RG ts c r
theorem RGs.chk {ss ts : List Con} {R : List Rw} (h : RGs ss ts R) : chkP ss ts R = none := by
  unfold chkP
  rw [if_neg (fun z => z h.len), fw_good 0 fun i c r h1 h2 => (h.g i c r h1 h2).none]; rfl
theorem RGs.small {ss ts : List Con} {R : List Rw} (h : RGs ss ts R) : ∀ r ∈ R, r.small := fun r hr => by
  obtain ⟨i, hi, rfl⟩ := List.getElem_of_mem hr
  have l := h.len
  exact (h.g i ss[i] _ (List.getElem?_eq_getElem (by omega)) (List.getElem?_eq_getElem hi)).small
end PK
namespace PK
open PySem L2
/-! the faults of a target's rows -/
def seqO (os : List Out) : Out := os.foldr orO .non
theorem orO_nonR (o : Out) : orO o .non = o := by cases o <;> rfl
theorem firstO_sk {os : List Out} {e : Out} : ∀ {ps : List Int}, (∀ p ∈ ps, 0 ≤ p ∧ p < (os.length : Int)) → firstO os e ps = orO (seqO (ps.filterMap fun p : Int => os[p.toNat]?)) e
  | [], _ => rfl
  | p :: r, h => by
    have hp := h p List.mem_cons_self
    have hl : p.toNat < os.length := by omega
    rw [firstO_cons, List.filterMap_cons, List.getElem?_eq_getElem hl, firstO_sk fun q hq => h q (List.mem_cons_of_mem _ hq)]
    show orO os[p.toNat] _ = orO (orO os[p.toNat] _) e
    rw [orO_assoc]; rfl
def vO (known : List Int) (q : Nat) : Out := if ((q : Nat) : Int) ∈ known then .non else .blk (q : Nat)
def stS (σ : Nat → Nat) (l known : List Int) : Out := seqO (l.map fun p : Int => vO known (σ p.toNat))
theorem stop_one {ds : List Con} {c x : Con} {r : Rw} {os : List Nat} {σ : Nat → Nat} {wr : Bool} (o : One c x r os (os.map σ) wr) (hx : conOf ds c.nm = some x) (yp : conOf ds "yplain" = some yP) (yv : conOf ds "yvalue" = some yV) (gl : plOk c.ar c.pl) (known : List Int) :
    stop ds r known = orO (orO (stS σ c.pl known) (endO c)) (if wr = true then (if c.kd = "value" then .non else .rdx) else .non) := by
  have lo : os.length = c.ar := by rw [o.hos.length_eq, List.length_range]
  have inner : ev ds (gO (kI r.ps) (bx r.ps known)) (.node c.nm ((os.map σ).map fun q => .var (r.ps.getD q ""))) = orO (stS σ c.pl known) (endO c) := by
    rw [ev_node, hx]
    show firstO _ (endO x) x.pl = _
    have ex : endO x = endO c := by unfold endO; rw [o.kd]
    have kids : ((os.map σ).map fun q => Tm.var (r.ps.getD q "")).map (ev ds (gO (kI r.ps) (bx r.ps known))) = os.map fun q => vO known (σ q) := by
      rw [List.map_map, List.map_map]
      refine List.map_congr_left fun q hq => ?_
      have hq' : σ q < c.ar := by
        have := o.hvs.mem_iff.mp (List.mem_map_of_mem (f := σ) hq)
        simpa using this
      have e1 : r.ps[σ q]? = some (r.ps.getD (σ q) "") := by
        rw [List.getD_eq_getElem?_getD, List.getElem?_eq_getElem (by rw [o.wl]; exact hq')]; rfl
      show ev ds _ (.var (r.ps.getD (σ q) "")) = _
      rw [ev]
      unfold gO kI bx vO
      rw [kx_at o.wn e1]
      by_cases z : ((σ q : Nat) : Int) ∈ known
      · rw [if_pos z, if_pos (decide_eq_true z)]
      · rw [if_neg z, if_neg (by rw [decide_eq_false z]; exact Bool.false_ne_true)]
    rw [kids, ex, firstO_sk, o.pl.sk]
    · rfl
    · intro p hp
      rw [List.length_map]
      have := (o.pl.ok lo gl.1 (fun p hp => (gl.2.1 p hp).1)).2 p hp
      omega
  show ev ds _ r.t = _
  rw [o.t]
  cases wr with
  | false =>
    show ev ds _ (.node c.nm _) = orO _ .non
    rw [inner, orO_nonR]
  | true =>
    show ev ds _ (.node (if c.kd = "value" then "yvalue" else "yplain") [.node c.nm _]) = _
    by_cases e : c.kd = "value"
    · rw [if_pos e, if_pos rfl, if_pos e, ev_node, yv, List.map_cons, List.map_nil, inner]
      show firstO [_] (endO yV) [0] = _
      rw [show endO yV = .non from if_neg (by decide +kernel)]
      show (match ((([_] : List Out)[(0 : Int).toNat]?).getD .non) with | .non => _ | o => o) = _
      show (match orO (stS σ c.pl known) (endO c) with | .non => Out.non | o => o) = _
      cases orO (stS σ c.pl known) (endO c) <;> rfl
    · rw [if_neg e, if_pos rfl, if_neg e, ev_node, yp, List.map_cons, List.map_nil, inner]
      show firstO [_] (endO yP) [0] = _
      rw [show endO yP = .rdx from if_pos rfl]
      show (match orO (stS σ c.pl known) (endO c) with | .non => Out.rdx | o => o) = _
      cases orO (stS σ c.pl known) (endO c) <;> rfl
theorem seqO_app (a b : List Out) : seqO (a ++ b) = orO (seqO a) (seqO b) := by
  induction a with
  | nil => rfl
  | cons x a ih =>
    show orO x (seqO (a ++ b)) = orO (orO x (seqO a)) (seqO b)
    rw [ih, orO_assoc]
theorem seqO_non {l : List Out} (h : ∀ o ∈ l, o = .non) : seqO l = .non := by
  induction l with
  | nil => rfl
  | cons x l ih =>
    show orO x (seqO l) = _
    rw [h x List.mem_cons_self, ih fun o ho => h o (List.mem_cons_of_mem _ ho)]; rfl
/-- the places that are passed don't stop it, the next one does -/
theorem stS_at {σ : Nat → Nat} {l : List Int} {i : Nat} {p : Int} {q : Nat} {known : List Int} (e : l[i]? = some p) (hk : ∀ z ∈ l.take i, ((σ z.toNat : Nat) : Int) ∈ known) (hq : σ p.toNat = q) (hn : ((q : Nat) : Int) ∉ known) : stS σ l known = .blk (q : Nat) := by
  obtain ⟨hi, e'⟩ := List.getElem?_eq_some_iff.mp e
  have : l = l.take i ++ p :: l.drop (i + 1) := by
    rw [← e', ← List.drop_eq_getElem_cons hi, List.take_append_drop]
  unfold stS
  rw [this, List.map_append, seqO_app, seqO_non, List.map_cons]
  · show orO .non (orO (vO known (σ p.toNat)) _) = _
    unfold vO
    rw [hq, if_neg hn]; rfl
  · intro o ho
    obtain ⟨z, hz, rfl⟩ := List.mem_map.mp ho
    unfold vO
    rw [if_pos (hk z hz)]
theorem stS_all {σ : Nat → Nat} {l : List Int} {known : List Int} (hk : ∀ z ∈ l, ((σ z.toNat : Nat) : Int) ∈ known) : stS σ l known = .non := seqO_non fun o ho => by
  obtain ⟨z, hz, rfl⟩ := List.mem_map.mp ho
  unfold vO
  rw [if_pos (hk z hz)]
theorem not_take {l : List Int} (nd : l.Nodup) {i : Nat} {p : Int} (e : l[i]? = some p) : p ∉ l.take i := fun h => by
  obtain ⟨j, hj, ej⟩ := List.getElem_of_mem h
  rw [List.length_take] at hj
  rw [List.getElem_take] at ej
  have h1 : l[j]? = l[i]? := by rw [e, ← ej]; exact List.getElem?_eq_getElem (by omega)
  have := (List.getElem?_inj (by omega) nd).mp h1
  omega
section
variable {ds : List Con} {c x : Con} {r : Rw} {os : List Nat} {wr : Bool}
/-- a row of the target has no faults -/
theorem flt_none (o : One c x r os (os.map id) wr) (hx : conOf ds c.nm = some x) (yp : conOf ds "yplain" = some yP) (yv : conOf ds "yvalue" = some yV) (gl : plOk c.ar c.pl) : fltD ds c r = [] := by
  have nn : ∀ z ∈ c.pl, ((z.toNat : Nat) : Int) = z := fun z hz => by have := (gl.2.1 z hz).1; omega
  have st : ∀ (i : Nat) (p : Int), c.pl[i]? = some p → stop ds r (c.pl.take i) = .blk p := fun i p e => by
    have hp := List.mem_of_getElem? e
    rw [stop_one o hx yp yv gl, stS_at (q := p.toNat) e (fun z hz => by show ((z.toNat : Nat) : Int) ∈ _; rw [nn z (List.mem_of_mem_take hz)]; exact hz) rfl (by rw [nn p hp]; exact not_take gl.1 e), nn p hp]
    rfl
  have fp : ∀ i, foundP ds c r i = [] := fun i => by
    induction i with
    | zero => rfl
    | succ i ih =>
      cases e : c.pl[i]? with
      | none =>
        show foundP ds c r i ++ (match c.pl[i]? with | some p => if stop ds r (c.pl.take i) = .blk p then [] else [plD c.nm p] | none => []) = _
        rw [e, ih]; rfl
      | some p => rw [foundP_succ e, ih, if_pos (st i p e)]; rfl
  unfold fltD
  rw [fp, if_neg]; · rfl
  rintro ⟨z, h⟩
  refine h ?_
  rw [stop_one o hx yp yv gl, stS_all (fun z hz => by show ((z.toNat : Nat) : Int) ∈ _; rw [nn z hz]; exact hz)]
  show orO (endO c) _ = _
  rw [show endO c = .non from if_neg (by rw [z]; decide +kernel), if_pos z]
  cases wr <;> rfl
def swp (a b q : Nat) : Nat := if q = a then b else if q = b then a else q
theorem swp_inj {a b : Nat} (h : a ≠ b) {q q' : Nat} (e : swp a b q = swp a b q') : q = q' := by
  unfold swp at e
  by_cases h1 : q = a
  · rw [if_pos h1] at e
    by_cases h2 : q' = a
    · omega
    · rw [if_neg h2] at e
      by_cases h3 : q' = b
      · rw [if_pos h3] at e; omega
      · rw [if_neg h3] at e; omega
  · rw [if_neg h1] at e
    by_cases h4 : q = b
    · rw [if_pos h4] at e
      by_cases h2 : q' = a
      · rw [if_pos h2] at e; omega
      · rw [if_neg h2] at e
        by_cases h3 : q' = b
        · omega
        · rw [if_neg h3] at e; omega
    · rw [if_neg h4] at e
      by_cases h2 : q' = a
      · rw [if_pos h2] at e; omega
      · rw [if_neg h2] at e
        by_cases h3 : q' = b
        · rw [if_pos h3] at e; omega
        · rw [if_neg h3] at e; exact e
theorem swp_perm {a b n : Nat} {os : List Nat} (h : a ≠ b) (ha : a < n) (hb : b < n) (p : os.Perm (List.range n)) : (os.map (swp a b)).Perm (List.range n) := by
  have nd : os.Nodup := p.nodup_iff.mpr List.nodup_range
  have mem : ∀ q, q ∈ os ↔ q < n := fun q => by rw [p.mem_iff]; simp
  refine (List.perm_ext_iff_of_nodup (List.Pairwise.map (R := fun a b => a ≠ b) _ (fun x y hxy e => hxy (swp_inj h e)) nd) List.nodup_range).mpr fun q => ?_
  rw [List.mem_map, List.mem_range]
  constructor
  · rintro ⟨z, hz, rfl⟩
    have := (mem z).mp hz
    unfold swp
    split
    · exact hb
    · split
      · exact ha
      · exact this
  · intro hq
    refine ⟨swp a b q, (mem _).mpr ?_, ?_⟩
    · unfold swp
      split
      · exact hb
      · split
        · exact ha
        · exact hq
    · unfold swp
      by_cases h1 : q = a
      · rw [if_pos h1, if_neg (by omega), if_pos rfl]; exact h1.symm
      · rw [if_neg h1]
        by_cases h2 : q = b
        · rw [if_pos h2, if_pos rfl]; exact h2.symm
        · rw [if_neg h2, if_neg h1, if_neg h2]
/-- one fault where the first two are exchanged -/
theorem flt_swap {p0 p1 : Int} {l : List Int} (e : c.pl = p0 :: p1 :: l) (o : One c x r os (os.map (swp p0.toNat p1.toNat)) wr) (hx : conOf ds c.nm = some x) (yp : conOf ds "yplain" = some yP) (yv : conOf ds "yvalue" = some yV) (gl : plOk c.ar c.pl) : fltD ds c r = [plD c.nm p0] := by
  have nn : ∀ z ∈ c.pl, ((z.toNat : Nat) : Int) = z := fun z hz => by have := (gl.2.1 z hz).1; omega
  have m0 : p0 ∈ c.pl := by rw [e]; exact List.mem_cons_self
  have m1 : p1 ∈ c.pl := by rw [e]; exact List.mem_cons_of_mem _ List.mem_cons_self
  have n0 := nn p0 m0
  have n1 := nn p1 m1
  have nd := gl.1
  have ne : p0 ≠ p1 := fun z => by
    rw [e, List.nodup_cons] at nd
    exact nd.1 (by rw [z]; exact List.mem_cons_self)
  have s0 : swp p0.toNat p1.toNat p0.toNat = p1.toNat := if_pos rfl
  have s1 : swp p0.toNat p1.toNat p1.toNat = p0.toNat := by unfold swp; rw [if_neg (by omega), if_pos rfl]
  have so : ∀ z ∈ c.pl, z ≠ p0 → z ≠ p1 → swp p0.toNat p1.toNat z.toNat = z.toNat := fun z hz h0 h1 => by
    have := nn z hz
    unfold swp; rw [if_neg (by omega), if_neg (by omega)]
  have st0 : stop ds r (c.pl.take 0) = .blk p1 := by
    rw [stop_one o hx yp yv gl, stS_at (i := 0) (p := p0) (q := p1.toNat) (by rw [e]; rfl) (fun z hz => by rw [List.take_zero] at hz; cases hz) s0 (by rw [List.take_zero]; exact List.not_mem_nil), n1]; rfl
  have inK : ∀ i, 2 ≤ i → ∀ z ∈ c.pl.take i, ((swp p0.toNat p1.toNat z.toNat : Nat) : Int) ∈ c.pl.take i := fun i hi z hz => by
    have k0 : p0 ∈ c.pl.take i := by obtain ⟨j, rfl⟩ : ∃ j, i = j + 2 := ⟨i - 2, by omega⟩; rw [e]; exact List.mem_cons_self
    have k1 : p1 ∈ c.pl.take i := by obtain ⟨j, rfl⟩ : ∃ j, i = j + 2 := ⟨i - 2, by omega⟩; rw [e]; exact List.mem_cons_of_mem _ List.mem_cons_self
    by_cases h0 : z = p0
    · rw [h0, s0, n1]; exact k1
    · by_cases h1 : z = p1
      · rw [h1, s1, n0]; exact k0
      · rw [so z (List.mem_of_mem_take hz) h0 h1, nn z (List.mem_of_mem_take hz)]; exact hz
  have st : ∀ (i : Nat) (p : Int), 1 ≤ i → c.pl[i]? = some p → stop ds r (c.pl.take i) = .blk p := fun i p hi ei => by
    have hp := List.mem_of_getElem? ei
    rw [stop_one o hx yp yv gl]
    by_cases h1 : i = 1
    · subst h1
      have : p = p1 := by rw [e] at ei; exact (Option.some.inj ei).symm
      subst this
      rw [stS_at (i := 0) (p := p0) (q := p.toNat) (by rw [e]; rfl) (fun z hz => by rw [List.take_zero] at hz; cases hz) s0 (by rw [n1]; exact not_take gl.1 ei), n1]; rfl
    · have hn := not_take gl.1 ei
      have k0 : p ≠ p0 := fun z => hn (by rw [z]; obtain ⟨j, rfl⟩ : ∃ j, i = j + 2 := ⟨i - 2, by omega⟩; rw [e]; exact List.mem_cons_self)
      have k1 : p ≠ p1 := fun z => hn (by rw [z]; obtain ⟨j, rfl⟩ : ∃ j, i = j + 2 := ⟨i - 2, by omega⟩; rw [e]; exact List.mem_cons_of_mem _ List.mem_cons_self)
      rw [stS_at (q := p.toNat) ei (inK i (by omega)) (so p hp k0 k1) (by rw [nn p hp]; exact hn), nn p hp]; rfl
  have fp : ∀ i, foundP ds c r (i + 1) = [plD c.nm p0] := fun i => by
    induction i with
    | zero =>
      rw [foundP_succ (show c.pl[0]? = some p0 by rw [e]; rfl), if_neg (by rw [st0]; exact fun z => ne (Out.blk.inj z).symm)]; rfl
    | succ i ih =>
      cases ei : c.pl[i + 1]? with
      | none =>
        show foundP ds c r (i + 1) ++ (match c.pl[i + 1]? with | some p => if stop ds r (c.pl.take (i + 1)) = .blk p then [] else [plD c.nm p] | none => []) = _
        rw [ei, ih]; rfl
      | some p => rw [foundP_succ ei, ih, if_pos (st _ p (by omega) ei)]; rfl
  unfold fltD
  rw [show c.pl.length = (l.length + 1) + 1 by rw [e]; rfl, fp, if_neg]; · rfl
  rintro ⟨z, h⟩
  refine h ?_
  rw [stop_one o hx yp yv gl, stS_all (by have := inK c.pl.length (by rw [e]; show 2 ≤ l.length + 1 + 1; omega); rw [List.take_length] at this; exact this)]
  show orO (endO c) _ = _
  rw [show endO c = .non from if_neg (by rw [z]; decide +kernel), if_pos z]
  cases wr <;> rfl
end
theorem allD_none {ds : List Con} : ∀ {cs : List Con} {R : List Rw}, (∀ (i : Nat) (c : Con) (r : Rw), cs[i]? = some c → R[i]? = some r → fltD ds c r = []) → allD ds cs R = []
  | [], _, _ => rfl
  | _ :: _, [], _ => rfl
  | c :: cs, r :: R, h => by
    show fltD ds c r ++ allD ds cs R = []
    rw [h 0 c r rfl rfl, allD_none (cs := cs) (R := R) fun i c' r' h1 h2 => h (i + 1) c' r' (by simpa using h1) (by simpa using h2)]; rfl
theorem allD_set {ds : List Con} : ∀ {cs : List Con} {R : List Rw} {k : Nat} {c : Con} {r' : Rw} {l : List PyData}, (∀ (i : Nat) (c : Con) (r : Rw), cs[i]? = some c → R[i]? = some r → fltD ds c r = []) → cs[k]? = some c → k < R.length → fltD ds c r' = l → allD ds cs (R.set k r') = l
  | [], _, k, c, _, _, _, h, _, _ => by simp at h
  | _ :: _, [], k, _, _, _, _, _, h, _ => by simp at h
  | c0 :: cs, r0 :: R, 0, c, r', l, h, h1, h2, h3 => by
    simp at h1; subst h1
    show fltD ds c0 r' ++ allD ds cs R = l
    rw [h3, allD_none (cs := cs) (R := R) fun i c' r' h1 h2 => h (i + 1) c' r' (by simpa using h1) (by simpa using h2), List.append_nil]
  | c0 :: cs, r0 :: R, k + 1, c, r', l, h, h1, h2, h3 => by
    show fltD ds c0 r0 ++ allD ds cs (R.set k r') = l
    rw [h 0 c0 r0 rfl rfl, allD_set (cs := cs) (R := R) (fun i c' r' h1 h2 => h (i + 1) c' r' (by simpa using h1) (by simpa using h2)) (by simpa using h1) (by simpa using h2) h3]; rfl
/-- a row of the target is a right row -/
theorem One.rows {ds : List Con} {c x : Con} {r : Rw} {os vs : List Nat} {wr : Bool} (o : One c x r os vs wr) (hx : conOf ds c.nm = some x) (yp : conOf ds "yplain" = some yP) (yv : conOf ds "yvalue" = some yV) (ga : c.ar ≤ 6) : rwOk r ∧ rwM ds r := by
  have mem : ∀ {n : Str} {y : Con}, conOf ds n = some y → y ∈ ds ∧ y.nm = n := fun {n y} h => ⟨List.mem_of_find?_eq_some h, by have := List.find?_some h; exact of_decide_eq_true this⟩
  have lv : vs.length = c.ar := by rw [o.hvs.length_eq, List.length_range]
  have hq : ∀ q ∈ vs, r.ps.getD q "" ∈ r.ps := fun q hq => by
    have : q < c.ar := by simpa using o.hvs.mem_iff.mp hq
    rw [List.getD_eq_getElem?_getD, List.getElem?_eq_getElem (by rw [o.wl]; exact this)]
    exact List.getElem_mem _
  have leaf : ∀ s ∈ r.ps, tplOk r.ps (.var s) ∧ conOk ds (.var s) := fun s hs => ⟨.mk ⟨Nat.zero_le _, fun s' e => by cases e; exact hs, fun f ts e => (by cases e), fun es e => (by cases e)⟩ fun k hk => absurd hk List.not_mem_nil, .mk (fun c ts e => by cases e) fun k hk => absurd hk List.not_mem_nil⟩
  let X := Tm.node c.nm (vs.map fun q => Tm.var (r.ps.getD q ""))
  have kX : ∀ k ∈ X.kids, ∃ s ∈ r.ps, k = .var s := fun k hk => by
    obtain ⟨q, h1, rfl⟩ := List.mem_map.mp (show k ∈ vs.map fun q => Tm.var (r.ps.getD q "") from hk)
    exact ⟨_, hq q h1, rfl⟩
  have tX : tplOk r.ps X := .mk (show tplN r.ps (.node c.nm (vs.map fun q => Tm.var (r.ps.getD q ""))) from ⟨by show (vs.map _).length ≤ 6; rw [List.length_map]; omega, fun s e => (by cases e), fun f ts e => (by cases e), fun es e => (by cases e)⟩) fun k hk => by
    obtain ⟨s, hs, rfl⟩ := kX k hk
    exact (leaf s hs).1
  have cX : conOk ds X := .mk (show conN ds (.node c.nm (vs.map fun q => Tm.var (r.ps.getD q ""))) from fun c' ts e => by
    cases e
    exact ⟨x, (mem hx).1, o.nm, by rw [List.length_map, lv, o.ar]⟩) fun k hk => by
    obtain ⟨s, hs, rfl⟩ := kX k hk
    exact (leaf s hs).2
  have hX : X.ht ≤ 2 := Tm.ht_le (n := 1) fun k hk => by
    obtain ⟨s, hs, rfl⟩ := kX k hk
    exact Tm.ht_le (n := 0) fun k hk => absurd hk List.not_mem_nil
  have tot0 : ∀ (f : Tm → Nat), (∀ s, f (.var s) = 0) → X.tot f = f X := fun f hf => by
    rw [Tm.tot_eq]
    have : (X.kids.map (Tm.tot f)).sum = 0 := by
      have : ∀ l : List Tm, (∀ k ∈ l, ∃ s ∈ r.ps, k = .var s) → (l.map (Tm.tot f)).sum = 0 := fun l => by
        induction l with
        | nil => exact fun _ => rfl
        | cons a l ih =>
          intro h
          obtain ⟨s, _, rfl⟩ := h a List.mem_cons_self
          rw [List.map_cons, List.sum_cons, ih fun k hk => h k (List.mem_cons_of_mem _ hk), Tm.tot_eq, hf s]; rfl
      exact this _ kX
    rw [this]; rfl
  have oX : ∀ s, X.tot (fO s) = r.ps.count s := fun s => by
    rw [tot_words, Tm.words_eq]
    show (([] : List Str) ++ ((vs.map fun q => Tm.var (r.ps.getD q "")).map Tm.wordsOf).flatten).count s = _
    have e1 : ((vs.map fun q => Tm.var (r.ps.getD q "")).map Tm.wordsOf).flatten = vs.map fun q => r.ps.getD q "" := by
      rw [List.map_map]
      generalize vs = l
      induction l with
      | nil => rfl
      | cons a l ih =>
        rw [List.map_cons, List.map_cons, List.flatten_cons, ih]
        show (Tm.var _).wordsOf ++ _ = _
        rw [Tm.words_eq]; rfl
    rw [List.nil_append, e1, (o.hvs.map fun q => r.ps.getD q "").count_eq]
    congr 1
    rw [← o.wl]
    refine List.ext_getElem (by rw [List.length_map, List.length_range]) fun i h1 h2 => ?_
    rw [List.getElem_map, List.getElem_range, List.getD_eq_getElem?_getD, List.getElem?_eq_getElem h2]; rfl
  have eN : fN X = 1 := rfl
  have eW : fW X = c.ar + 3 := by show (vs.map _).length + 3 = _; rw [List.length_map, lv]
  have wrap : ∀ t, t = wrapT c.kd wr X → tplOk r.ps t ∧ t.ht ≤ 3 ∧ (∃ c ts, t = .node c ts) ∧ conOk ds t ∧ t.tot fN ≤ 2 ∧ t.tot fW ≤ 20 ∧ ∀ s, t.tot (fO s) = r.ps.count s := by
    rintro t rfl
    cases wr with
    | false =>
      show tplOk r.ps X ∧ _
      refine ⟨tX, by show X.ht ≤ 3; omega, ⟨_, _, rfl⟩, cX, ?_, ?_, oX⟩
      · show X.tot fN ≤ 2; rw [tot0 fN fun _ => rfl, eN]; decide
      · show X.tot fW ≤ 20; rw [tot0 fW fun _ => rfl, eW]; omega
    | true =>
      let n : Str := if c.kd = "value" then "yvalue" else "yplain"
      show tplOk r.ps (.node n [X]) ∧ _
      have hn : ∃ y ∈ ds, y.nm = n ∧ y.ar = 1 := by
        by_cases z : c.kd = "value"
        · have z2 : n = "yvalue" := if_pos z
          exact ⟨yV, (mem yv).1, by rw [z2]; rfl, rfl⟩
        · have z2 : n = "yplain" := if_neg z
          exact ⟨yP, (mem yp).1, by rw [z2]; rfl, rfl⟩
      have one : ∀ f : Tm → Nat, (Tm.node n [X]).tot f = f (.node n [X]) + X.tot f := fun f => by rw [Tm.tot_eq]; show _ + (X.tot f + 0) = _; omega
      refine ⟨.mk ⟨by show 1 ≤ 6; decide, fun s e => (by cases e), fun f ts e => (by cases e), fun es e => (by cases e)⟩ fun k hk => by rw [List.mem_singleton.mp hk]; exact tX, ?_, ⟨_, _, rfl⟩, .mk (fun c' ts e => by
        cases e
        obtain ⟨y, h1, h2, h3⟩ := hn
        exact ⟨y, h1, h2, h3⟩) fun k hk => by rw [List.mem_singleton.mp hk]; exact cX, ?_, ?_, fun s => ?_⟩
      · exact Tm.ht_le (n := 2) fun k hk => by rw [List.mem_singleton.mp hk]; exact hX
      · show (Tm.node n [X]).tot fN ≤ 2; rw [one, tot0 fN fun _ => rfl, eN]; exact Nat.le_refl 2
      · show (Tm.node n [X]).tot fW ≤ 20; rw [one, tot0 fW fun _ => rfl, eW]; show 1 + 3 + _ ≤ _; omega
      · show (Tm.node n [X]).tot (fO s) = _; rw [one, oX s]; show 0 + _ = _; omega
  obtain ⟨h1, h2, h3, h4, h5, h6, h7⟩ := wrap r.t o.t
  exact ⟨⟨h1, by omega, h3, by rw [o.wl]; exact ga⟩, h4, ⟨by omega, by omega, h7⟩, o.wn, o.ww⟩
end PK
namespace PK
open PySem L2
/-! the target's language and rows -/
def spOrd (K : PySem.W.Frag) : Sp := fun vs H Q _ => ∃ (l c : Addr) (m : Nat), vs = [.ref l, .int (m : Nat)] ∧ Pool H l c ∧ m ≤ 8 ∧ ∀ (H' : Hp) (L : Addr) (os : List Nat), Ext l c H H' → H L = none → H' L = some (.lst (os.map fun q => V.int (q : Nat))) → os.Perm (List.range m) → Q (.ref L) H'
structure TgOk (cs ds0 : List Con) (R : List Rw) : Prop where
  l1 : ds0.length = cs.length
  l2 : R.length = cs.length
  one : ∀ (i : Nat) (c x : Con) (r : Rw), cs[i]? = some c → ds0[i]? = some x → R[i]? = some r → ∃ os wr, One c x r os os wr
theorem TgOk.snoc {cs ds0 : List Con} {R : List Rw} {i : Nat} {c x : Con} {r : Rw} {os : List Nat} {wr : Bool} (h : TgOk (cs.take i) ds0 R) (e : cs[i]? = some c) (o : One c x r os os wr) : TgOk (cs.take (i + 1)) (ds0 ++ [x]) (R ++ [r]) := by
  have hi := (List.getElem?_eq_some_iff.mp e).1
  have l0 : (cs.take i).length = i := by rw [List.length_take]; omega
  have l1 := h.l1
  have l2 := h.l2
  rw [take_snoc e]
  refine ⟨by rw [List.length_append, List.length_append, h.l1]; rfl, by rw [List.length_append, List.length_append, h.l2]; rfl, fun j c' x' r' h1 h2 h3 => ?_⟩
  by_cases hj : j < i
  · rw [List.getElem?_append_left (by omega)] at h1
    rw [List.getElem?_append_left (by omega)] at h2
    rw [List.getElem?_append_left (by omega)] at h3
    exact h.one j c' x' r' h1 h2 h3
  · have := (List.getElem?_eq_some_iff.mp h1).1
    rw [List.length_append] at this
    have z : [c].length = 1 := rfl
    have : j = i := by omega
    subst this
    rw [List.getElem?_append_right (by omega), l0, Nat.sub_self] at h1
    rw [List.getElem?_append_right (by omega), l1, l0, Nat.sub_self] at h2
    rw [List.getElem?_append_right (by omega), l2, l0, Nat.sub_self] at h3
    cases h1; cases h2; cases h3
    exact ⟨os, wr, o⟩
def spTgt (K : PySem.W.Frag) : Sp := fun vs H Q _ => ∃ (l c pc : Addr) (cv : List V) (cs : List Con), vs = [.ref l, .ref pc] ∧ Pool H l c ∧ pc ≠ l ∧ H pc = some (.lst cv) ∧ DtAll K H cv (cs.map Con.d) ∧ (∀ x ∈ cs, x.good ∧ x.ar ≤ 6) ∧ cs.length ≤ 7 ∧
  ∀ (H' : Hp) (a pt rt : Addr) (tv : List V) (ds0 : List Con) (R : List Rw), Ext l c H H' → SqT K H' a [.ref pt, .ref rt] → H pt = none → H' pt = some (.lst tv) → DtAll K H' tv ((ds0 ++ [yP, yV]).map Con.d) → Dt K H' (.ref rt) (.tuple (R.map Rw.d)) → TgOk cs ds0 R → Q (.ref a) H'
section
variable {P : Program} {w : World} {K : PySem.W.Frag} {mg : Str → Option Value} {base : Heap}
abbrev s_law_order : Stmt := topS 124
theorem sc_law_order : FnScope ["pool", "many", "order", "place"] ["pool", "many"] (defScope s_law_order) := ⟨rfl, rfl, rfl, by decide +kernel, rfl, by decide +kernel, by decide +kernel⟩
-- slots: 0:pool 1:many 2:order 3:place
abbrev s_law_target : Stmt := topS 125
theorem sc_law_target : FnScope ["pool", "constructors", "targets", "rows", "constructor", "order", "strict", "shift", "words", "template", "k", "place"] ["pool", "constructors"] (defScope s_law_target) := ⟨rfl, rfl, rfl, by decide +kernel, rfl, by decide +kernel, by decide +kernel⟩
-- slots: 0:pool(cell) 1:constructors 2:targets 3:rows 4:constructor 5:order(cell) 6:strict 7:shift(cell) 8:words(cell) 9:template 10:k(comp) 11:place(comp)
theorem ok_ord {f : Addr} {fd : FuncData} (F : Fun K "_law_order" "_law_order" s_law_order f fd) (T : Txt K mg) (C_law_take : C8.Cal P w K mg base 2 "_law_take" (spTake 2) []) : FnOk P w K mg base CX0 3 f fd ["pool", "many"] (spOrd K) := by
  refine F.ok sc_law_order (fun vs H Q E h => ?_) (fun cdv A outer s H vs Q E hr h => ?_)
  · obtain ⟨_, _, _, rfl, _⟩ := h
    rfl
  obtain ⟨l, c, m, rfl, P0, hm, q⟩ := h
  refine ⟨_, (pss_cons (ps_set (i := 2) sc_law_order.nd rfl (Or.inl rfl) (pe_lst pa_nil))
    (pss_cons (ps_for PassesOwn.never rfl (pi_range1 (by rfl) T.z_range (pa_cons (pv 1) pa_nil)) (pg_name (i := 3) sc_law_order.nd rfl (Or.inl rfl)) (pss_one (ps_expr (pe_bm PySem.F.plainAttrs_list PySem.F.slot_list_insert PySem.F.type_list_insert mt_insert (pv 2) (pa_cons (C8.pe_c C_law_take hr (by decide) rfl (pa_cons (pv 0) (pa_cons (pe_op op_add (pe_callB call_len_seq (by rfl) T.z_len (by decide +kernel) (pa_cons (pv 2) pa_nil)) pe_int) pa_nil))) (pa_cons (pv 3) pa_nil))))))
    (pss_one (ps_ret (pv 2))))), ?_⟩
  refine ⟨Nat.zero_le _, fun L hL => ?_⟩
  have x1 := (Ext.refl P0).new (o := .lst []) P0 hL
  have nL : L ≠ l := (P0.ne hL).1
  refine ⟨_, rfl, (m : Int), rfl, by omega, by omega, for_range (lo := 0) (n := (m : Int).toNat) (fun i σ H' => ∃ (os : List Nat) (o : Option V), σ = [some (.ref l), some (.int (m : Nat)), some (.ref L), o] ∧ Ext l c H H' ∧ H' L = some (.lst (os.map fun q => V.int (q : Nat))) ∧ os.length = i ∧ os.Perm (List.range i)) ?_ ?_ ?_⟩
  · exact ⟨[], _, rfl, x1, upd_same, rfl, .nil⟩
  · rintro i σ H' hi ⟨os, o, rfl, x, hn, ln, op⟩
    refine ⟨_, rfl, .inl ⟨rfl, _, SqL.of hn⟩, ?_⟩
    refine ⟨_, rfl, _, rfl, L, _, rfl, .inl (SqL.of hn), _, _, rfl, rfl, l, c, _, False, rfl, x.pool, by omega, by rw [List.length_map]; omega, .inl (Nat.le_refl 2), fun e H3 e0 e1 x3 => ?_⟩
    have hn3 := x3.keep _ _ nL hn
    rw [List.length_map] at e1
    refine ⟨_, rfl, L, _, e, _, rfl, rfl, hn3, by rw [List.length_map]; exact smallL (by omega), e0, by omega, ?_⟩
    refine ⟨os.take e.toNat ++ [i] ++ os.drop e.toNat, _, rfl, (x.trans x3).upd P0 hL, ?_, ?_, ?_⟩
    · rw [upd_same, List.map_append, List.map_append, List.map_take, List.map_drop, Int.zero_add]; rfl
    · rw [List.length_append, List.length_append, List.length_take, List.length_drop]; show min _ _ + 1 + _ = _; omega
    · rw [List.range_succ]
      have per : (os.take e.toNat ++ [i] ++ os.drop e.toNat).Perm (i :: os) := by
        rw [List.append_assoc, List.singleton_append]
        refine List.perm_middle.trans ?_
        rw [List.take_append_drop]
      refine per.trans ?_
      refine (List.Perm.cons _ op).trans ?_
      have := List.perm_append_comm (l₁ := [i]) (l₂ := List.range i)
      exact this
  rintro σ H' ⟨os, o, rfl, x, hn, ln, op⟩
  rw [show ((m : Nat) : Int).toNat = m by omega] at op
  exact ⟨_, rfl, q H' L os x hL hn op⟩
theorem ok_tgt {f : Addr} {fd : FuncData} (F : Fun K "_law_target" "_law_target" s_law_target f fd) (T : Txt K mg) (C_law_take : C8.Cal P w K mg base 2 "_law_take" (spTake 2) []) (C_law_word : C8.Cal P w K mg base 3 "_law_word" spLWord []) (C_law_order : C8.Cal P w K mg base 3 "_law_order" (spOrd K) []) : FnOk P w K mg base CX0 4 f fd ["pool", "constructors"] (spTgt K) := by
  refine F.ok sc_law_target (fun vs H Q E h => ?_) (fun cdv A outer s H vs Q E hr h => ?_)
  · obtain ⟨_, _, _, _, _, rfl, _⟩ := h
    rfl
  obtain ⟨l, c, pc, cv, cs, rfl, P0, npc, hpc, dcs, okc, l7, q⟩ := h
  refine ⟨_, (pss_cons (ps_set (i := 2) sc_law_target.nd rfl (Or.inl rfl) (pe_lst pa_nil))
    (pss_cons (ps_set (i := 3) sc_law_target.nd rfl (Or.inl rfl) (pe_lst pa_nil))
    (pss_cons (ps_for PassesOwn.never rfl (pi_list (pv 1)) (pg_name (i := 4) sc_law_target.nd rfl (Or.inl rfl)) (pss_cons (ps_set (i := 5) sc_law_target.nd rfl (Or.inr rfl) (C8.pe_c C_law_order hr (by decide) rfl (pa_cons (pv 0) (pa_cons (pe_ix ix_tup (pv 4) pe_int (fun _ _ => rfl)) pa_nil))))
    (pss_cons (ps_set (i := 6) sc_law_target.nd rfl (Or.inl rfl) (pe_callTy call_tuple_of (by rfl) T.z_tuple (by decide +kernel) (pa_cons (pe_lc (own := [("place", 11)]) (g := (gName 11)) (tt := tYes) (by rfl) sc_law_target.nd (pi_tup (pe_ix ix_tup (pv 4) pe_int (fun _ _ => rfl))) (blkOk_by (N := ["pool", "constructors", "targets", "rows", "constructor", "order", "strict", "shift", "words", "template", "k", "place"]) (sc := defScope s_law_target) (by decide +kernel)) (fun _ _ _ _ _ => (pg_name (i := 11) sc_law_target.nd rfl (Or.inl rfl))) (fun _ _ _ _ _ => pts_nil) (fun _ _ _ _ _ => (L2.PKAg.pe_bmK (K := K) (r := rIndex K) rfl PySem.F.plainAttrs_list PySem.F.slot_list_index PySem.F.type_list_index mt_index (pv 5) (pa_cons (pv 11) pa_nil)))) pa_nil)))
    (pss_cons (ps_expr (pe_bm PySem.F.plainAttrs_list PySem.F.slot_list_append PySem.F.type_list_append mt_append (pv 2) (pa_cons (pe_tup (pa_cons (pe_ix ix_tup (pv 4) pe_int (fun _ _ => rfl)) (pa_cons (pe_ix ix_tup (pv 4) pe_int (fun _ _ => rfl)) (pa_cons (pe_ix ix_tup (pv 4) pe_int (fun _ _ => rfl)) (pa_cons (pv 6) pa_nil))))) pa_nil)))
    (pss_cons (ps_set (i := 7) sc_law_target.nd rfl (Or.inr rfl) (C8.pe_c C_law_take hr (by decide) rfl (pa_cons (pv 0) (pa_cons pe_int pa_nil))))
    (pss_cons (ps_set (i := 8) sc_law_target.nd rfl (Or.inr rfl) (pe_lc (own := [("k", 10)]) (g := (gName 10)) (tt := tYes) (by rfl) sc_law_target.nd (pi_range1 (by rfl) T.z_range (pa_cons (pe_ix ix_tup (pv 4) pe_int (fun _ _ => rfl)) pa_nil)) (blkOk_by (N := ["pool", "constructors", "targets", "rows", "constructor", "order", "strict", "shift", "words", "template", "k", "place"]) (sc := defScope s_law_target) (by decide +kernel)) (fun _ _ _ _ _ => (pg_name (i := 10) sc_law_target.nd rfl (Or.inl rfl))) (fun _ _ _ _ _ => pts_nil) (fun _ _ _ _ _ => (C8.pe_c C_law_word hr (by decide) rfl (pa_cons (pv 0) (pa_cons (pv 10) (pa_cons (pv 7) pa_nil)))))))
    (pss_cons (ps_set (i := 9) sc_law_target.nd rfl (Or.inl rfl) (pe_tup (pa_cons pe_str (pa_cons (pe_ix ix_tup (pv 4) pe_int (fun _ _ => rfl)) (pa_cons (pe_callTy call_tuple_of (by rfl) T.z_tuple (by decide +kernel) (pa_cons (pe_lc (own := [("place", 11)]) (g := (gName 11)) (tt := tYes) (by rfl) sc_law_target.nd (pi_list (pv 5)) (blkOk_by (N := ["pool", "constructors", "targets", "rows", "constructor", "order", "strict", "shift", "words", "template", "k", "place"]) (sc := defScope s_law_target) (by decide +kernel)) (fun _ _ _ _ _ => (pg_name (i := 11) sc_law_target.nd rfl (Or.inl rfl))) (fun _ _ _ _ _ => pts_nil) (fun _ _ _ _ _ => (pe_tup (pa_cons pe_str (pa_cons (pe_ix (r := rIxL K) ix_list (pv 8) (pv 11) (fun _ _ => rfl)) pa_nil))))) pa_nil)) pa_nil)))))
    (C8.pss_cut (ps_if (pt_cmpR op_eq (C8.pe_c C_law_take hr (by decide) rfl (pa_cons (pv 0) (pa_cons pe_int pa_nil))) pe_int (nomark _)) (pss_one (ps_set (i := 9) sc_law_target.nd rfl (Or.inl rfl) (pe_tup (pa_cons pe_str (pa_cons (pe_ix ix_tup (pe_tup (pa_cons pe_str (pa_cons pe_str pa_nil))) (pe_callTy call_int1 (by rfl) T.z_int (by decide +kernel) (pa_cons (pe_cmpR op_eq (pe_ix ix_tup (pv 4) pe_int (fun _ _ => rfl)) pe_str (nomark _)) pa_nil)) (fun _ _ => rfl)) (pa_cons (pe_tup (pa_cons (pv 9) pa_nil)) pa_nil)))))) pss_nil)
    (pss_one (ps_expr (pe_bm PySem.F.plainAttrs_list PySem.F.slot_list_append PySem.F.type_list_append mt_append (pv 3) (pa_cons (pe_tup (pa_cons (pe_ix ix_tup (pv 4) pe_int (fun _ _ => rfl)) (pa_cons (pe_callTy call_tuple_of (by rfl) T.z_tuple (by decide +kernel) (pa_cons (pv 8) pa_nil)) (pa_cons (pv 9) pa_nil)))) pa_nil))))))))))))
    (pss_cons (ps_expr (pe_bm PySem.F.plainAttrs_list PySem.F.slot_list_append PySem.F.type_list_append mt_append (pv 2) (pa_cons (pe_tup (pa_cons pe_str (pa_cons pe_int (pa_cons pe_str (pa_cons (pe_tup (pa_cons pe_int pa_nil)) pa_nil))))) pa_nil)))
    (pss_cons (ps_expr (pe_bm PySem.F.plainAttrs_list PySem.F.slot_list_append PySem.F.type_list_append mt_append (pv 2) (pa_cons (pe_tup (pa_cons pe_str (pa_cons pe_int (pa_cons pe_str (pa_cons (pe_tup (pa_cons pe_int pa_nil)) pa_nil))))) pa_nil)))
    (pss_one (ps_ret (pe_tup (pa_cons (pv 2) (pa_cons (pe_callTy call_tuple_of (by rfl) T.z_tuple (by decide +kernel) (pa_cons (pv 3) pa_nil)) pa_nil)))))))))), ?_⟩
  have lcv : cv.length = cs.length := by rw [dcs.lenD, List.length_map]
  refine ⟨Nat.zero_le _, fun La hLa => ?_⟩
  have x1 := (Ext.refl P0).new (o := .lst []) P0 hLa
  have nLa : La ≠ l := (P0.ne hLa).1
  refine ⟨Nat.zero_le _, fun Lb hLb => ?_⟩
  have x2 := x1.new (o := .lst []) P0 hLb
  have nLb : Lb ≠ l := (x1.pool.ne hLb).1
  have nab : La ≠ Lb := ne_of_none upd_same hLb
  have fLb : H Lb = none := x1.free P0 hLb
  have hLa2 : (upd (upd H La (.lst [])) Lb (.lst [])) La = some (.lst []) := by rw [upd_ne nab, upd_same]
  refine ⟨_, rfl, pc, rfl, ⟨_, SqL.of (x2.keep _ _ npc hpc)⟩, for_it (walk_list (K := K) (xs := cv)) (fun i σ H' => ∃ (tv rv : List V) (ds0 : List Con) (R : List Rw) (o4 o5 o6 o7 o8 o9 : Option V), σ = [some (.ref l), some (.ref pc), some (.ref La), some (.ref Lb), o4, o5, o6, o7, o8, o9, none, none] ∧ Ext l c H H' ∧ H' La = some (.lst tv) ∧ DtAll K H' tv (ds0.map Con.d) ∧ H' Lb = some (.lst rv) ∧ DtAll K H' rv (R.map Rw.d) ∧ TgOk (cs.take i) ds0 R) ?_ ?_ ?_ ?_⟩
  · exact ⟨[], [], [], [], _, _, _, _, _, _, rfl, x2, hLa2, .nil, upd_same, .nil, by simp, by simp, fun i c x r h => by rw [List.take_zero] at h; simp at h⟩
  · rintro i σ H' _ ⟨_, _, _, _, _, _, _, _, _, _, _, x, _⟩
    exact SqL.of (x.keep _ _ npc hpc)
  · rintro i v σ H2 H2 hi ⟨tv, rv, ds0, R, o4, o5, o6, o7, o8, o9, rfl, x3, ha3, da3, hb3, db3, tok⟩ ⟨rfl, gx⟩
    obtain ⟨dd, gd, dx⟩ := DtAll.getX dcs gx
    rw [List.getElem?_map] at gd
    cases e0 : cs[i]? with
    | none => rw [e0] at gd; cases gd
    | some con =>
    rw [e0] at gd
    cases gd
    have hcon : con ∈ cs := List.mem_of_getElem? e0
    obtain ⟨gc, ga⟩ := okc con hcon
    have lti : (cs.take i).length = i := by rw [List.length_take]; have := (List.getElem?_eq_some_iff.mp e0).1; omega
    obtain ⟨a1, b1, rfl, hs1, hb1⟩ := Con.get4 dx
    have hs3 := x3.seqT P0 hs1
    refine ⟨_, rfl, vTx rfl hs3 rfl ⟨l, c, con.ar, rfl, x3.pool, by omega, fun H4 Lo os x4 hLo0 hLo op => ?_⟩⟩
    have x34 := x3.trans x4
    have nLo : Lo ≠ l := (x3.pool.ne hLo0).1
    have lo : os.length = con.ar := by rw [op.length_eq, List.length_range]
    -- the places
    refine vTx rfl (x34.seqT P0 hs1) rfl ⟨b1, rfl, ⟨_, x34.seqT P0 hb1⟩, fun D hD => lcX (K := K) (walk_tup (xs := con.pl.map V.int)) x4.pool hD (by rw [List.length_map]; have := gc.pl.2.2; omega) (fun ds => ∃ sl : List Int, ds = sl.map .int ∧ PlR os (con.pl.take sl.length) sl) ⟨[], rfl, by rw [List.length_nil, List.take_zero]; exact .nil⟩ (fun H' x => (x34.trans x).seqT P0 hb1) ?_ ?_⟩
    · rintro k x5 H5 H5 ds Rr hk x5' ⟨rfl, gx5⟩ ⟨sl, rfl, pr⟩ len r
      rw [List.length_map] at len hk
      rw [List.getElem?_map] at gx5
      cases ep : con.pl[k]? with
      | none => rw [ep] at gx5; cases gx5
      | some p =>
      rw [ep] at gx5
      cases gx5
      have hp := gc.pl.2.1 p (List.mem_of_getElem? ep)
      obtain ⟨j, hj, ej⟩ := List.getElem_of_mem (op.mem_iff.mpr (show p.toNat ∈ List.range con.ar by rw [List.mem_range]; omega))
      have ej : os[j]? = some p.toNat := by rw [List.getElem?_eq_getElem hj, ej]
      have nd : os.Nodup := op.nodup_iff.mpr List.nodup_range
      have hLo5 := x5'.keep _ _ nLo hLo
      refine ⟨rfl, _, rfl, .inl ⟨rfl, _, SqL.of hLo5⟩, _, rfl, Lo, _, _, j, .int (p.toNat : Nat), rfl, rfl, SqL.of hLo5, rfl, ?_, by rw [List.getElem?_map, ej]; rfl, ?_, fun m z' hm ez => ?_, r (.int (j : Nat)) _ _ (Ext.refl x5'.pool) (.int _) ⟨sl ++ [((j : Nat) : Int)], by rw [List.map_append]; rfl, ?_⟩⟩
      · rw [List.all_map, List.all_eq_true]; exact fun _ _ => rfl
      · show (((p.toNat : Nat) : Int) == p) = true
        rw [beq_iff_eq]; omega
      · rw [List.getElem?_map] at ez
        cases em : os[m]? with
        | none => rw [em] at ez; cases ez
        | some q =>
        rw [em] at ez
        cases ez
        show (((q : Nat) : Int) == p) = false
        rw [beq_eq_false_iff_ne]
        intro z
        have : os[m]? = os[j]? := by rw [em, ej]; congr 1; omega
        have := (List.getElem?_inj (List.getElem?_eq_some_iff.mp em).1 nd).mp this
        omega
      · rw [List.length_append, show sl.length + [((j : Nat) : Int)].length = sl.length + 1 from rfl, take_snoc (by rw [len]; exact ep)]
        exact pr.snoc ej
    rintro H5 ws5 ds5 x5 hws5 da5 len5 ⟨sl, rfl, pr⟩
    rw [List.length_map, List.length_map] at len5
    rw [len5, List.take_length] at pr
    obtain rfl := da5.intsE
    refine ⟨D, _, rfl, .inl ⟨SqL.of hws5, fun ps hps => ?_⟩⟩
    have x6 := x5.new (o := .tup (sl.map V.int)) x4.pool hps
    have x46 := x4.trans x6
    have x36 := x3.trans x46
    have dsl : Dt K (upd H5 ps (.tup (sl.map V.int))) (.ref ps) (.tuple (sl.map .int)) := .tup (SqT.of upd_same) (DtAll.ints sl)
    have hps6 : (upd H5 ps (.tup (sl.map V.int))) ps = some (.tup (sl.map V.int)) := upd_same
    have ha6 := x46.keep _ _ nLa ha3
    have da6 := da3.ext x3.pool x46
    have hb6 := x46.keep _ _ nLb hb3
    have db6 := db3.ext x3.pool x46
    have hLo6 := x6.keep _ _ nLo hLo
    have P6 := x6.pool
    generalize upd H5 ps (HO.tup (sl.map V.int)) = H6 at *
    have hs6 := x36.seqT P0 hs1
    refine ⟨_, rfl, .inl ⟨rfl, _, SqL.of ha6⟩, vTx rfl hs6 rfl (vTx rfl hs6 rfl (vTx rfl hs6 rfl ⟨_, rfl, small (by show 4 ≤ _; decide), fun p7 hp7 => ?_⟩))⟩
    have x7 := (Ext.refl P6).new (o := .tup [.str con.nm, .int (con.ar : Nat), .str con.kd, .ref ps]) P6 hp7
    have ltv : tv.length ≤ 7 := by have := da3.lenD; rw [List.length_map, tok.l1, lti] at this; have := (List.getElem?_eq_some_iff.mp e0).1; omega
    refine ⟨La, tv, _, rfl, rfl, x7.keep _ _ nLa ha6, smallL (by omega), ?_⟩
    have ha8 : (upd (upd H6 p7 (.tup [.str con.nm, .int (con.ar : Nat), .str con.kd, .ref ps])) La (.lst (tv ++ [.ref p7]))) La = some (.lst (tv ++ [.ref p7])) := upd_same
    have x8 := (x36.trans x7).upd (o := .lst (tv ++ [.ref p7])) P0 hLa
    have dx7 : Dt K (upd H6 p7 (.tup [.str con.nm, .int (con.ar : Nat), .str con.kd, .ref ps])) (.ref p7) (Con.mk con.nm con.ar con.kd sl).d := vCon (x := ⟨con.nm, con.ar, con.kd, sl⟩) hp7 dsl
    have da8 : DtAll K (upd (upd H6 p7 (.tup [.str con.nm, .int (con.ar : Nat), .str con.kd, .ref ps])) La (.lst (tv ++ [.ref p7]))) (tv ++ [.ref p7]) ((ds0 ++ [(⟨con.nm, con.ar, con.kd, sl⟩ : Con)]).map Con.d) := by
      rw [List.map_append]
      exact ((da6.ext P6 x7).append (.cons dx7 .nil)).upd (x7.keep _ _ nLa ha6)
    have hb8 : (upd (upd H6 p7 (.tup [.str con.nm, .int (con.ar : Nat), .str con.kd, .ref ps])) La (.lst (tv ++ [.ref p7]))) Lb = some (.lst rv) := by rw [upd_ne nab.symm]; exact x7.keep _ _ nLb hb6
    have db8 := (db6.ext P6 x7).upd (us := tv ++ [.ref p7]) (x7.keep _ _ nLa ha6)
    have nLoa : Lo ≠ La := fun z => by rw [z, ha3] at hLo0; cases hLo0
    have nLob : Lo ≠ Lb := fun z => by rw [z, hb3] at hLo0; cases hLo0
    have hLo8 : (upd (upd H6 p7 (.tup [.str con.nm, .int (con.ar : Nat), .str con.kd, .ref ps])) La (.lst (tv ++ [.ref p7]))) Lo = some (.lst (os.map fun q => V.int (q : Nat))) := by rw [upd_ne nLoa]; exact x7.keep _ _ nLo hLo6
    clear dsl hps6 ha6 da6 hb6 db6 hLo6 dx7
    generalize upd (upd H6 p7 (HO.tup [.str con.nm, .int (con.ar : Nat), .str con.kd, .ref ps])) La (HO.lst (tv ++ [.ref p7])) = H8 at *
    have P8 := x8.pool
    refine vTake rfl P8 (by decide) (by decide) fun sh H9 sh0 sh1 x9 => ?_
    have hs9 := (x8.trans x9).seqT P0 hs1
    -- the words
    refine vTx rfl hs9 rfl ⟨(con.ar : Nat), rfl, by omega, by omega, fun D2 hD2 => lcX (K := K) (walk_range (lo := 0) (n := ((con.ar : Nat) : Int).toNat)) x9.pool hD2 (by omega) (fun ds => ∃ ss : List Str, ds = ss.map PyData.str ∧ ∀ (j : Nat) (x : Str), ss[j]? = some x → Tag x (lmAt ((0 + j : Nat) + sh)) ∧ Wd x) ⟨[], rfl, fun j x e => by simp at e⟩ (fun _ _ => trivial) ?_ ?_⟩
    · rintro k x4 H4 H4 ds R' hk x4' ⟨rfl, rfl⟩ ⟨ss, rfl, tg⟩ len r
      refine ⟨rfl, _, rfl, _, rfl, _, rfl, l, c, _, _, rfl, x4'.pool, fun H5 nm x5 wn tn _ => r (.str nm) _ _ x5 (.str nm) ⟨ss ++ [nm], by rw [List.map_append]; rfl, fun j z hz => ?_⟩⟩
      rw [List.length_map] at len
      by_cases hj : j < ss.length
      · rw [List.getElem?_append_left hj] at hz
        exact tg j z hz
      · rw [List.getElem?_append_right (by omega)] at hz
        have ej : j - ss.length = 0 := by
          cases e : j - ss.length with
          | zero => rfl
          | succ k => rw [e] at hz; simp at hz
        rw [ej] at hz
        cases hz
        have : j = k := by omega
        rw [this]
        have e : ((0 + k : Nat) : Int) + sh = 0 + (k : Int) + sh := by omega
        rw [e]
        exact ⟨tn, wn⟩
    rintro H10 ws10 ds10 x10 hws10 da10 len10 ⟨ss, rfl, tgs⟩
    rw [List.length_map] at len10
    have lss : ss.length = con.ar := by omega
    have ndp : ss.Nodup := tag_nds (b := 0) (sh := sh) (by omega) fun j x e => (tgs j x e).1
    obtain rfl := da10.strsE
    have x910 := x9.trans x10
    have hs10 := (x8.trans x910).seqT P0 hs1
    have hLo10 := x910.keep _ _ nLo hLo8
    have nD2 : D2 ≠ l := (x9.pool.ne hD2).1
    -- the template
    have hqs : ∀ q ∈ os, q < con.ar := fun q hq => by simpa using op.mem_iff.mp hq
    refine vTx rfl hs10 rfl ⟨_, rfl, Lo, rfl, ⟨_, SqL.of hLo10⟩, fun D3 hD3 => lcX (K := K) (walk_list (xs := os.map fun q => V.int (q : Nat))) x10.pool hD3 (by rw [List.length_map]; omega) (fun ds => ds = ((os.take ds.length).map fun q => Tm.var (ss.getD q "")).map Tm.d) rfl (fun H' x => SqL.of (x.keep _ _ nLo hLo10)) ?_ ?_⟩
    · rintro k y H11 H11 ds Rr hk x11 ⟨rfl, gy⟩ jd len r
      rw [List.length_map] at hk
      rw [List.getElem?_map] at gy
      cases eq0 : os[k]? with
      | none => rw [eq0] at gy; cases gy
      | some q0 =>
      rw [eq0] at gy
      cases gy
      have hq0 := hqs q0 (List.mem_of_getElem? eq0)
      have e1 : ss[q0]? = some (ss.getD q0 "") := by
        rw [List.getD_eq_getElem?_getD, List.getElem?_eq_getElem (by omega)]; rfl
      refine ⟨rfl, _, rfl, _, rfl, D2, _, _, .str (ss.getD q0 ""), rfl, rfl, SqL.of (x11.keep _ _ nD2 hws10), atI_nat (by rw [List.getElem?_map, e1]; rfl), small (by show 2 ≤ _; decide), fun p hp => r (Tm.var (ss.getD q0 "")).d _ _ ((Ext.refl x11.pool).new x11.pool hp) ?_ ?_⟩
      · unfold Tm.d
        exact Dt.mk2 hp (.str _) (.str _)
      · rw [List.length_append, len, show k + [(Tm.var (ss.getD q0 "")).d].length = k + 1 from rfl, take_snoc eq0, List.map_append, List.map_append]
        rw [len] at jd
        rw [← jd]; rfl
    rintro H11 ws11 ds11 x11 hws11 da11 len11 jd
    rw [List.length_map] at len11
    rw [len11, List.take_length] at jd
    subst jd
    refine ⟨D3, _, rfl, .inl ⟨SqL.of hws11, fun p12 hp12 => ⟨small (by show 3 ≤ _; decide), fun p13 hp13 => ?_⟩⟩⟩
    have y12 := x11.new (o := .tup ws11) x10.pool hp12
    have x13 := y12.new (o := .tup [.str "node", .str con.nm, .ref p12]) x10.pool hp13
    have dT : Dt K (upd (upd H11 p12 (.tup ws11)) p13 (.tup [.str "node", .str con.nm, .ref p12])) (.ref p13) (Tm.node con.nm (os.map fun q => Tm.var (ss.getD q ""))).d := by
      unfold Tm.d
      rw [Tm.ds_map]
      exact Dt.mk3 hp13 (.str _) (.str _) (.tup (SqT.of upd_same) (da11.same (same_new hp12)))
    generalize upd (upd H11 p12 (HO.tup ws11)) p13 (HO.tup [V.str "node", V.str con.nm, V.ref p12]) = H13 at *
    have x813 := (x910.trans x13)
    have ha13 := x813.keep _ _ nLa ha8
    have da13 := da8.ext P8 x813
    have hb13 := x813.keep _ _ nLb hb8
    have db13 := db8.ext P8 x813
    have hws13 := x13.keep _ _ nD2 hws10
    have x013 := x8.trans x813
    have P13 := x13.pool
    refine ⟨fun σ H' => ∃ (tv' : V) (wr : Bool), σ = [some (.ref l), some (.ref pc), some (.ref La), some (.ref Lb), some (.ref a1), some (.ref Lo), some (.ref ps), some (.int sh), some (.ref D2), some tv', none, none] ∧ Ext l c H13 H' ∧ Dt K H' tv' (wrapT con.kd wr (.node con.nm (os.map fun q => Tm.var (ss.getD q "")))).d, ?_, ?_⟩
    · refine vTake rfl P13 (by decide) (by decide) fun k H14 k0 k1 x14 => ⟨rfl, _, rfl, ite2 (fun _ => ?_) (fun _ => ?_)⟩
      · refine ⟨small (by show 2 ≤ _; decide), fun pz hpz => ?_⟩
        have z1 := (Ext.refl x14.pool).new (o := .tup [.str "yplain", .str "yvalue"]) x14.pool hpz
        refine vTx rfl ((x013.trans (x14.trans z1)).seqT P0 hs1) rfl ⟨rfl, .inr ⟨_, rfl, ?_⟩⟩
        by_cases ek : con.kd = "value"
        · rw [show decide (V.str con.kd = V.str "value") = true from decide_eq_true (by rw [ek])]
          refine ⟨pz, _, 1, .str "yvalue", rfl, rfl, SqT.of upd_same, atI_nat (j := 1) rfl, _, rfl, small (by show 1 ≤ _; decide), fun pw hpw => ⟨small (by show 3 ≤ _; decide), fun pv hpv => ⟨_, true, rfl, ((x14.trans z1).new P13 hpw).new P13 hpv, ?_⟩⟩⟩
          show Dt K _ _ (Tm.node (if con.kd = "value" then "yvalue" else "yplain") [_]).d
          rw [if_pos ek]
          unfold Tm.d
          rw [Tm.ds_map]
          exact Dt.mk3 hpv (.str _) (.str _) (.tup (SqT.of upd_same) (.cons ((dT.ext P13 (x14.trans z1)).same (same_new hpw)) .nil))
        · rw [show decide (V.str con.kd = V.str "value") = false from decide_eq_false (fun z => ek (V.str.inj z))]
          refine ⟨pz, _, 0, .str "yplain", rfl, rfl, SqT.of upd_same, atI_nat (j := 0) rfl, _, rfl, small (by show 1 ≤ _; decide), fun pw hpw => ⟨small (by show 3 ≤ _; decide), fun pv hpv => ⟨_, true, rfl, ((x14.trans z1).new P13 hpw).new P13 hpv, ?_⟩⟩⟩
          show Dt K _ _ (Tm.node (if con.kd = "value" then "yvalue" else "yplain") [_]).d
          rw [if_neg ek]
          unfold Tm.d
          rw [Tm.ds_map]
          exact Dt.mk3 hpv (.str _) (.str _) (.tup (SqT.of upd_same) (.cons ((dT.ext P13 (x14.trans z1)).same (same_new hpw)) .nil))
      · exact ⟨_, false, rfl, x14, dT.ext P13 x14⟩
    rintro σ H15 ⟨tv', wr, rfl, x15, dT5⟩
    have ha15 := x15.keep _ _ nLa ha13
    have hb15 := x15.keep _ _ nLb hb13
    have x015 := x013.trans x15
    have P15 := x15.pool
    have lrv : rv.length ≤ 7 := by have := db3.lenD; rw [List.length_map, tok.l2, lti] at this; have := (List.getElem?_eq_some_iff.mp e0).1; omega
    refine ⟨_, rfl, .inl ⟨rfl, _, SqL.of hb15⟩, vTx rfl (x015.seqT P0 hs1) rfl ⟨_, rfl, D2, _, rfl, .inl ⟨SqL.of (x15.keep _ _ nD2 hws13), fun pw hpw => ⟨_, rfl, small (by show 3 ≤ _; decide), fun pr' hpr => ?_⟩⟩⟩⟩
    have z1 := (Ext.refl P15).new (o := .tup (ss.map V.str)) P15 hpw
    have z2 := z1.new (o := .tup [.str con.nm, .ref pw, tv']) P15 hpr
    have o1 : One con ⟨con.nm, con.ar, con.kd, sl⟩ ⟨con.nm, ss, wrapT con.kd wr (.node con.nm (os.map fun q => Tm.var (ss.getD q "")))⟩ os os wr := ⟨rfl, rfl, rfl, pr, op, op, rfl, lss, ndp, fun w hw => by
      obtain ⟨j, hj, rfl⟩ := List.getElem_of_mem hw
      exact (tgs j _ (List.getElem?_eq_getElem hj)).2, rfl⟩
    have dr : Dt K (upd (upd H15 pw (.tup (ss.map V.str))) pr' (.tup [.str con.nm, .ref pw, tv'])) (.ref pr') (Rw.d ⟨con.nm, ss, wrapT con.kd wr (.node con.nm (os.map fun q => Tm.var (ss.getD q "")))⟩) := by
      unfold Rw.d
      exact Dt.mk3 hpr (.str _) (.tup (SqT.of upd_same) (DtAll.strs ss)) (dT5.ext P15 z1)
    refine ⟨Lb, rv, _, rfl, rfl, z2.keep _ _ nLb hb15, smallL (by omega), tv ++ [.ref p7], rv ++ [.ref pr'], _, R ++ [⟨con.nm, ss, wrapT con.kd wr (.node con.nm (os.map fun q => Tm.var (ss.getD q "")))⟩], _, _, _, _, _, _, rfl, (x015.trans z2).upd P0 fLb, ?_, ?_, upd_same, ?_, tok.snoc e0 o1⟩
    · rw [upd_ne nab]; exact z2.keep _ _ nLa ha15
    · exact ((da13.ext P13 x15).ext P15 z2).upd (z2.keep _ _ nLb hb15)
    · rw [List.map_append]
      exact (((db13.ext P13 x15).ext P15 z2).append (.cons dr .nil)).upd (z2.keep _ _ nLb hb15)
  rintro σ H1 ⟨tv, rv, ds0, R, o4, o5, o6, o7, o8, o9, rfl, x3, ha3, da3, hb3, db3, tok⟩
  rw [lcv, List.take_length] at tok
  have ltv : tv.length ≤ 7 := by have := da3.lenD; rw [List.length_map, tok.l1] at this; omega
  have P3 := x3.pool
  refine ⟨_, rfl, .inl ⟨rfl, _, SqL.of ha3⟩, small (by show 1 ≤ _; decide), fun p1 hp1 => ⟨small (by show 4 ≤ _; decide), fun p2 hp2 => ?_⟩⟩
  have z1 := (Ext.refl P3).new (o := .tup [.int 0]) P3 hp1
  have z2 := z1.new (o := .tup [.str "yplain", .int 1, .str "plain", .ref p1]) P3 hp2
  have ha4 := z2.keep _ _ nLa ha3
  refine ⟨La, tv, _, rfl, rfl, ha4, smallL (by omega), ?_⟩
  have dy1 : Dt K (upd (upd H1 p1 (.tup [.int 0])) p2 (.tup [.str "yplain", .int 1, .str "plain", .ref p1])) (.ref p2) yP.d := vCon (x := yP) hp2 (.tup (SqT.of upd_same) (.cons (.int 0) .nil))
  have w1 : DtAll K (upd (upd (upd H1 p1 (.tup [.int 0])) p2 (.tup [.str "yplain", .int 1, .str "plain", .ref p1])) La (.lst (tv ++ [.ref p2]))) (tv ++ [.ref p2]) ((ds0 ++ [yP]).map Con.d) := by
    rw [List.map_append]
    exact ((da3.ext P3 z2).append (.cons dy1 .nil)).upd ha4
  have w2 : (upd (upd (upd H1 p1 (.tup [.int 0])) p2 (.tup [.str "yplain", .int 1, .str "plain", .ref p1])) La (.lst (tv ++ [.ref p2]))) La = some (.lst (tv ++ [.ref p2])) := upd_same
  have w3 : (upd (upd (upd H1 p1 (.tup [.int 0])) p2 (.tup [.str "yplain", .int 1, .str "plain", .ref p1])) La (.lst (tv ++ [.ref p2]))) Lb = some (.lst rv) := by rw [upd_ne nab.symm]; exact z2.keep _ _ nLb hb3
  have w4 := (db3.ext P3 z2).upd (us := tv ++ [.ref p2]) ha4
  have w5 := (x3.trans z2).upd (o := .lst (tv ++ [.ref p2])) P0 hLa
  generalize upd (upd (upd H1 p1 (HO.tup [V.int 0])) p2 (HO.tup [V.str "yplain", V.int 1, V.str "plain", V.ref p1])) La (HO.lst (tv ++ [V.ref p2])) = H5 at *
  have P5 := w5.pool
  refine ⟨_, rfl, .inl ⟨rfl, _, SqL.of w2⟩, small (by show 1 ≤ _; decide), fun p3 hp3 => ⟨small (by show 4 ≤ _; decide), fun p4 hp4 => ?_⟩⟩
  have z3 := (Ext.refl P5).new (o := .tup [.int 0]) P5 hp3
  have z4 := z3.new (o := .tup [.str "yvalue", .int 1, .str "value", .ref p3]) P5 hp4
  have ha6 := z4.keep _ _ nLa w2
  refine ⟨La, _, _, rfl, rfl, ha6, smallL (by rw [List.length_append]; show _ + 1 < _; omega), ?_⟩
  have dy2 : Dt K (upd (upd H5 p3 (.tup [.int 0])) p4 (.tup [.str "yvalue", .int 1, .str "value", .ref p3])) (.ref p4) yV.d := vCon (x := yV) hp4 (.tup (SqT.of upd_same) (.cons (.int 0) .nil))
  have v1 : DtAll K (upd (upd (upd H5 p3 (.tup [.int 0])) p4 (.tup [.str "yvalue", .int 1, .str "value", .ref p3])) La (.lst (tv ++ [.ref p2] ++ [.ref p4]))) (tv ++ [.ref p2] ++ [.ref p4]) ((ds0 ++ [yP, yV]).map Con.d) := by
    rw [show ds0 ++ [yP, yV] = (ds0 ++ [yP]) ++ [yV] by rw [List.append_assoc]; rfl, List.map_append]
    exact ((w1.ext P5 z4).append (.cons dy2 .nil)).upd ha6
  have v3 : (upd (upd (upd H5 p3 (.tup [.int 0])) p4 (.tup [.str "yvalue", .int 1, .str "value", .ref p3])) La (.lst (tv ++ [.ref p2] ++ [.ref p4]))) Lb = some (.lst rv) := by rw [upd_ne nab.symm]; exact z4.keep _ _ nLb w3
  have v4 := (w4.ext P5 z4).upd (us := tv ++ [.ref p2] ++ [.ref p4]) ha6
  have v2 : (upd (upd (upd H5 p3 (.tup [.int 0])) p4 (.tup [.str "yvalue", .int 1, .str "value", .ref p3])) La (.lst (tv ++ [.ref p2] ++ [.ref p4]))) La = some (.lst (tv ++ [.ref p2] ++ [.ref p4])) := upd_same
  have v5 := (w5.trans z4).upd (o := .lst (tv ++ [.ref p2] ++ [.ref p4])) P0 hLa
  generalize upd (upd (upd H5 p3 (HO.tup [V.int 0])) p4 (HO.tup [V.str "yvalue", V.int 1, V.str "value", V.ref p3])) La (HO.lst (tv ++ [V.ref p2] ++ [V.ref p4])) = H7 at *
  have P7 := v5.pool
  refine ⟨_, rfl, _, rfl, Lb, rv, rfl, .inl ⟨SqL.of v3, fun pt hpt => ⟨small (by show 2 ≤ _; decide), fun pa hpa => ?_⟩⟩⟩
  have u1 := (Ext.refl P7).new (o := .tup rv) P7 hpt
  have u2 := u1.new (o := .tup [.ref La, .ref pt]) P7 hpa
  refine q _ pa La pt _ ds0 R (v5.trans u2) (SqT.of upd_same) hLa (u2.keep _ _ nLa v2) (v1.ext P7 u2) ?_ tok
  exact .tup ((Ext.refl u1.pool).new u1.pool hpa |>.seqT u1.pool (SqT.of upd_same)) (v4.ext P7 u2)
end
end PK
namespace PK
open PySem L2
/-! the law's values and what stands inside -/
def optT (K : PySem.W.Frag) (H : Hp) (v : V) : Option Tm → Prop
  | none => v = .non
  | some u => Dt K H v u.d
theorem vl_bools {cs : List Con} {ts : List Tm} : ∀ l : List Int, (l.filterMap fun p : Int => ts[p.toNat]?).all (vl cs) = (l.map fun p : Int => ((ts[p.toNat]?).map (vl cs)).getD true).all id
  | [] => rfl
  | p :: l => by
    rw [List.filterMap_cons, List.map_cons, List.all_cons, ← vl_bools l]
    cases ts[p.toNat]? with
    | none => rfl
    | some k => rfl
theorem inn_at {cs : List Con} {ts : List Tm} {k : Tm} : ∀ {l : List Int} {i : Nat} {p : Int}, l[i]? = some p → ts[p.toNat]? = some k → vl cs k = false → (∀ z ∈ l.take i, ((ts[z.toNat]?).map (vl cs)).getD true = true) → (l.filterMap fun p : Int => ts[p.toNat]?).find? (fun k => !vl cs k) = some k
  | [], i, p, h, _, _, _ => by simp at h
  | q :: r, 0, p, h, hk, hv, _ => by
    simp at h; subst h
    rw [List.filterMap_cons, hk, List.find?_cons, hv]; rfl
  | q :: r, i + 1, p, h, hk, hv, hz => by
    have h1 := hz q (by rw [List.take_succ_cons]; exact List.mem_cons_self)
    have ih := inn_at (l := r) (i := i) (by simpa using h) hk hv fun z hz' => hz z (by rw [List.take_succ_cons]; exact List.mem_cons_of_mem _ hz')
    rw [List.filterMap_cons]
    cases e : ts[q.toNat]? with
    | none => exact ih
    | some y =>
      rw [e] at h1
      have h1 : vl cs y = true := h1
      show List.find? _ (y :: _) = _
      rw [List.find?_cons, h1]; exact ih
theorem inn_none {cs : List Con} {ts : List Tm} : ∀ {l : List Int}, (∀ z ∈ l, ((ts[z.toNat]?).map (vl cs)).getD true = true) → (l.filterMap fun p : Int => ts[p.toNat]?).find? (fun k => !vl cs k) = none
  | [], _ => rfl
  | q :: r, hz => by
    have h1 := hz q List.mem_cons_self
    have ih := inn_none (l := r) fun z hz' => hz z (List.mem_cons_of_mem _ hz')
    rw [List.filterMap_cons]
    cases e : ts[q.toNat]? with
    | none => exact ih
    | some y =>
      rw [e] at h1
      have h1 : vl cs y = true := h1
      show List.find? _ (y :: _) = _
      rw [List.find?_cons, h1]; exact ih
def spIsV (K : PySem.W.Frag) (n : Nat) : Sp := fun vs H Q _ => ∃ (p : Addr) (cv : List V) (cs : List Con) (v : V) (t : Tm), vs = [.ref p, v] ∧ Lc K H p cv cs ∧ Dt K H v t.d ∧ Al (prN cs) t ∧ noF t ∧ t.ht ≤ n ∧ ∀ H', Same H H' → Q (.bl (vl cs t)) H'
def spInn (K : PySem.W.Frag) (n : Nat) : Sp := fun vs H Q _ => ∃ (p : Addr) (cv : List V) (cs : List Con) (v : V) (t : Tm), vs = [.ref p, v] ∧ Lc K H p cv cs ∧ Dt K H v t.d ∧ Al (prN cs) t ∧ noF t ∧ t.ht ≤ n ∧ (∃ c ts, t = .node c ts) ∧ ∀ (H' : Hp) (v' : V), Same H H' → optT K H' v' (inn cs t) → Q v' H'
def spStd (K : PySem.W.Frag) (n : Nat) : Sp := fun vs H Q _ => ∃ (p : Addr) (cv : List V) (cs : List Con) (v : V) (t : Tm), vs = [.ref p, v] ∧ Lc K H p cv cs ∧ Dt K H v t.d ∧ Al (prN cs) t ∧ noF t ∧ t.ht ≤ n ∧ vl cs t = false ∧ ∀ (H' : Hp) (v' : V), Same H H' → Dt K H' v' (standN cs 40 t).d → Q v' H'
def spCms (K : PySem.W.Frag) (n : Nat) : Sp := fun vs H Q _ => ∃ (p : Addr) (cv : List V) (cs : List Con) (v w : V) (t u : Tm) (m : Nat), vs = [.ref p, v, w] ∧ Lc K H p cv cs ∧ Dt K H v t.d ∧ Dt K H w u.d ∧ Al (prN cs) t ∧ noF t ∧ t.ht ≤ n ∧ noF u ∧ u.ht ≤ 30 ∧ Path cs m t u ∧ m ≤ 39 ∧ ∀ H', Same H H' → Q (.bl true) H'
section
variable {P : Program} {w : World} {K : PySem.W.Frag} {mg : Str → Option Value} {base : Heap}
abbrev s_law_is_value : Stmt := topS 120
theorem sc_law_is_value : FnScope ["constructors", "term", "shape", "place"] ["constructors", "term"] (defScope s_law_is_value) := ⟨rfl, rfl, rfl, by decide +kernel, rfl, by decide +kernel, by decide +kernel⟩
-- slots: 0:constructors(cell) 1:term(cell) 2:shape 3:place(comp)
abbrev s_law_inner : Stmt := topS 121
theorem sc_law_inner : FnScope ["constructors", "term", "place"] ["constructors", "term"] (defScope s_law_inner) := ⟨rfl, rfl, rfl, by decide +kernel, rfl, by decide +kernel, by decide +kernel⟩
-- slots: 0:constructors 1:term 2:place
abbrev s_law_standing : Stmt := topS 122
theorem sc_law_standing : FnScope ["constructors", "term", "k", "inner"] ["constructors", "term"] (defScope s_law_standing) := ⟨rfl, rfl, rfl, by decide +kernel, rfl, by decide +kernel, by decide +kernel⟩
-- slots: 0:constructors 1:term 2:k 3:inner
abbrev s_law_comes_to : Stmt := topS 123
theorem sc_law_comes_to : FnScope ["constructors", "term", "wanted", "k"] ["constructors", "term", "wanted"] (defScope s_law_comes_to) := ⟨rfl, rfl, rfl, by decide +kernel, rfl, by decide +kernel, by decide +kernel⟩
-- slots: 0:constructors 1:term 2:wanted 3:k
theorem ok_isv {n : Nat} {f : Addr} {fd : FuncData} (F : Fun K "_law_is_value" "_law_is_value" s_law_is_value f fd) (T : Txt K mg) (C_law_shape : C8.Cal P w K mg base 1 "_law_shape" (spShape K) []) (C_law_is_value : C8.Cal P w K mg base (n + 1) "_law_is_value" (spIsV K n) []) :
    FnOk P w K mg base CX0 (n + 2) f fd ["constructors", "term"] (spIsV K (n + 1)) := by
  refine F.ok sc_law_is_value (fun vs H Q E h => ?_) (fun cdv A outer s H vs Q E hr h => ?_)
  · obtain ⟨_, _, _, _, _, rfl, _⟩ := h
    rfl
  obtain ⟨p, cv, cs, v, t, rfl, lc, hv, co, nf, hh, q⟩ := h
  refine ⟨_, (pss_cons (ps_if (pt_cmpR op_ne (pe_ix ix_tup (pv 1) pe_int (fun _ _ => rfl)) pe_str (nomark _)) (pss_one (ps_ret pe_bl)) pss_nil)
    (pss_cons (ps_set (i := 2) sc_law_is_value.nd rfl (Or.inl rfl) (C8.pe_c C_law_shape hr (by omega) rfl (pa_cons (pv 0) (pa_cons (pe_ix ix_tup (pv 1) pe_int (fun _ _ => rfl)) pa_nil))))
    (pss_one (ps_ret (pe_and (pe_cmpR op_eq (pe_ix ix_tup (pv 2) pe_int (fun _ _ => rfl)) pe_str (nomark _)) (pe_one (pe_callB (cr_all (by rfl)) (by rfl) T.z_all (by decide +kernel) (pa_cons (pe_lc (own := [("place", 3)]) (g := (gName 3)) (tt := tYes) (by rfl) sc_law_is_value.nd (pi_tup (pe_ix ix_tup (pv 2) pe_int (fun _ _ => rfl))) (blkOk_by (N := ["constructors", "term", "shape", "place"]) (sc := defScope s_law_is_value) (by decide +kernel)) (fun _ _ _ _ _ => (pg_name (i := 3) sc_law_is_value.nd rfl (Or.inl rfl))) (fun _ _ _ _ _ => pts_nil) (fun _ _ _ _ _ => (C8.pe_c C_law_is_value hr (by omega) rfl (pa_cons (pv 0) (pa_cons (pe_ix (r := rIxT K) ix_tup (pe_ix (r := rIxT K) ix_tup (pv 1) pe_int (fun _ _ => rfl)) (pv 3) (fun _ _ => rfl)) pa_nil))))) pa_nil)))))))), ?_⟩
  have q0 := q H (Same.refl H)
  cases t with
  | node c ts =>
    unfold Tm.d at hv
    obtain ⟨a, x, y, z, rfl, hs, h1, h2, h3⟩ := Dt.t3 hv
    obtain rfl := h1.s
    obtain rfl := h2.s
    obtain ⟨b2, ys, rfl, hb2, hys⟩ := Dt.tn h3
    rw [Tm.ds_map] at hys
    have ly : ys.length = ts.length := by rw [hys.lenD, List.length_map]
    obtain ⟨con, hcon, enm, ear⟩ := co.at_ c ts rfl
    subst enm
    refine vTx rfl hs rfl ⟨rfl, _, rfl, nF rfl ?_⟩
    refine ⟨_, rfl, vTx rfl hs rfl ⟨p, cv, cs, con, rfl, lc, hcon, fun sv dsv => ?_⟩⟩
    obtain ⟨a3, b3, rfl, hs3, hb3⟩ := Con.get4 dsv
    have eo : vl cs (.node con.nm ts) = (decide (con.kd = "value") && (con.pl.map fun p : Int => ((ts[p.toNat]?).map (vl cs)).getD true).all id) := by
      rw [vl_eq, knd_node (conOf_mem lc.nd hcon), sk_node (conOf_mem lc.nd hcon), vl_bools]
    obtain ⟨gc, ga⟩ := lc.ok con hcon
    refine vTx rfl hs3 rfl ⟨rfl, _, rfl, ?_⟩
    rw [eo] at q q0
    by_cases ek : con.kd = "value"
    · rw [decide_eq_true ek, Bool.true_and] at q
      refine sT ek (vTx rfl hs3 rfl ⟨b3, rfl, ⟨_, hb3⟩, fun D hD => lcS (K := K) (walk_tup (xs := con.pl.map V.int)) hD (by have := gc.pl.2.2; rw [List.length_map]; omega) (fun ds => ds = ((con.pl.take ds.length).map fun p : Int => ((ts[p.toNat]?).map (vl cs)).getD true).map PyData.bool) rfl (fun H' s => Same.seqT s hb3) ?_ ?_⟩)
      · rintro i x H1 H1 ds R hi s1 ⟨rfl, gx⟩ jd len r
        rw [List.getElem?_map] at gx
        cases e0 : con.pl[i]? with
        | none => rw [e0] at gx; cases gx
        | some pz =>
        rw [e0] at gx
        cases gx
        have hp := List.mem_of_getElem? e0
        obtain ⟨p0, p1⟩ := gc.pl.2.1 pz hp
        obtain ⟨j, rfl⟩ : ∃ j : Nat, pz = j := ⟨pz.toNat, by omega⟩
        have hj : j < ts.length := by omega
        obtain ⟨u, gu, du⟩ := hys.getD (i := j) (d := (ts[j]).d) (by rw [List.getElem?_map, List.getElem?_eq_getElem hj]; rfl)
        have hk : ts[j] ∈ (Tm.node con.nm ts).kids := List.getElem_mem hj
        have := Tm.ht_kid hk
        refine ⟨rfl, _, rfl, vTx rfl (Same.seqT s1 hs) rfl ⟨_, rfl, b2, ys, _, u, rfl, rfl, Same.seqT s1 hb2, atI_nat gu, p, cv, cs, u, ts[j], rfl, lc.same s1, du.same s1, co.kid hk, nf.kid hk, by omega, fun H2 s2 => r (.bool _) _ H2 s2 (.bl _) ?_⟩⟩
        rw [List.length_append, len, show i + [PyData.bool (vl cs ts[j])].length = i + 1 from rfl, take_snoc e0, List.map_append, List.map_append]
        rw [len] at jd
        rw [← jd]
        show _ = ds ++ [PyData.bool (((ts[((j : Nat) : Int).toNat]?).map (vl cs)).getD true)]
        rw [show ((j : Nat) : Int).toNat = j from rfl, List.getElem?_eq_getElem hj]; rfl
      rintro H1 ws ds s1 hws da len jd
      rw [len, List.length_map, List.take_length] at jd
      rw [jd] at da
      rw [da.boolsE] at hws
      exact ⟨D, _, rfl, SqL.of hws, q H1 s1⟩
    · rw [decide_eq_false ek, Bool.false_and] at q0
      exact sF ek q0
  | int m =>
    unfold Tm.d at hv
    obtain ⟨a, x, y, rfl, hs, h1, h2⟩ := Dt.t2 hv
    obtain rfl := h1.s
    rw [vl_eq] at q0
    exact vTx rfl hs rfl ⟨rfl, _, rfl, nT (by decide +kernel) q0⟩
  | name m =>
    unfold Tm.d at hv
    obtain ⟨a, x, y, rfl, hs, h1, h2⟩ := Dt.t2 hv
    obtain rfl := h1.s
    rw [vl_eq] at q0
    exact vTx rfl hs rfl ⟨rfl, _, rfl, nT (by decide +kernel) q0⟩
  | addr m =>
    unfold Tm.d at hv
    obtain ⟨a, x, y, rfl, hs, h1, h2⟩ := Dt.t2 hv
    obtain rfl := h1.s
    rw [vl_eq] at q0
    exact vTx rfl hs rfl ⟨rfl, _, rfl, nT (by decide +kernel) q0⟩
  | var m =>
    unfold Tm.d at hv
    obtain ⟨a, x, y, rfl, hs, h1, h2⟩ := Dt.t2 hv
    obtain rfl := h1.s
    rw [vl_eq] at q0
    exact vTx rfl hs rfl ⟨rfl, _, rfl, nT (by decide +kernel) q0⟩
  | map es =>
    unfold Tm.d at hv
    obtain ⟨a, x, y, rfl, hs, h1, h2⟩ := Dt.t2 hv
    obtain rfl := h1.s
    rw [vl_eq] at q0
    exact vTx rfl hs rfl ⟨rfl, _, rfl, nT (by decide +kernel) q0⟩
  | form g ts => exact absurd rfl (nf.at_.2 g ts)
theorem ok_inn {n j : Nat} {f : Addr} {fd : FuncData} (F : Fun K "_law_inner" "_law_inner" s_law_inner f fd) (C_law_shape : C8.Cal P w K mg base 1 "_law_shape" (spShape K) []) (C_law_is_value : C8.Cal P w K mg base (n + 1) "_law_is_value" (spIsV K n) []) :
    FnOk P w K mg base CX0 (n + 2) f fd ["constructors", "term"] (spInn K n) := by
  refine F.ok sc_law_inner (fun vs H Q E h => ?_) (fun cdv A outer s H vs Q E hr h => ?_)
  · obtain ⟨_, _, _, _, _, rfl, _⟩ := h
    rfl
  obtain ⟨p, cv, cs, v, t, rfl, lc, hv, co, nf, hh, ⟨c, ts, rfl⟩, q⟩ := h
  refine ⟨_, (pss_cons (ps_for PassesOwn.never rfl (pi_tup (pe_ix ix_tup (C8.pe_c C_law_shape hr (by omega) rfl (pa_cons (pv 0) (pa_cons (pe_ix ix_tup (pv 1) pe_int (fun _ _ => rfl)) pa_nil))) pe_int (fun _ _ => rfl))) (pg_name (i := 2) sc_law_inner.nd rfl (Or.inl rfl)) (pss_one (ps_if (pt_not (pt_val (C8.pe_c C_law_is_value hr (by omega) rfl (pa_cons (pv 0) (pa_cons (pe_ix ix_tup (pe_ix ix_tup (pv 1) pe_int (fun _ _ => rfl)) (pv 2) (fun _ _ => rfl)) pa_nil))))) (pss_one (ps_ret (pe_ix ix_tup (pe_ix ix_tup (pv 1) pe_int (fun _ _ => rfl)) (pv 2) (fun _ _ => rfl)))) pss_nil)))
    (pss_one (ps_ret pe_non))), ?_⟩
  unfold Tm.d at hv
  obtain ⟨a, x, y, z, rfl, hs, h1, h2, h3⟩ := Dt.t3 hv
  obtain rfl := h1.s
  obtain rfl := h2.s
  obtain ⟨b2, ys, rfl, hb2, hys⟩ := Dt.tn h3
  rw [Tm.ds_map] at hys
  have ly : ys.length = ts.length := by rw [hys.lenD, List.length_map]
  obtain ⟨con, hcon, enm, ear⟩ := co.at_ c ts rfl
  subst enm
  have eo : inn cs (.node con.nm ts) = (con.pl.filterMap fun p : Int => ts[p.toNat]?).find? fun k => !vl cs k := by
    unfold inn
    rw [sk_node (conOf_mem lc.nd hcon)]
  obtain ⟨gc, ga⟩ := lc.ok con hcon
  refine ⟨_, rfl, vTx rfl hs rfl ⟨p, cv, cs, con, rfl, lc, hcon, fun sv dsv => ?_⟩⟩
  obtain ⟨a3, b3, rfl, hs3, hb3⟩ := Con.get4 dsv
  refine ⟨a3, _, 3, _, rfl, rfl, hs3, atI_nat (j := 3) rfl, b3, rfl, ⟨_, hb3⟩, for_it (walk_tup (K := K) (xs := con.pl.map V.int)) (fun i σ H' => ∃ o, σ = [some (.ref p), some (.ref a), o] ∧ Same H H' ∧ ∀ z ∈ con.pl.take i, ((ts[z.toNat]?).map (vl cs)).getD true = true) ?_ ?_ ?_ ?_⟩
  · exact ⟨_, rfl, Same.refl _, fun y hy => by rw [List.take_zero] at hy; cases hy⟩
  · rintro i σ H' _ ⟨_, _, s, _⟩
    exact Same.seqT s hb3
  · rintro i x σ H2 H2 hi ⟨o, rfl, s2, nx⟩ ⟨rfl, gx⟩
    rw [List.getElem?_map] at gx
    cases e0 : con.pl[i]? with
    | none => rw [e0] at gx; cases gx
    | some pz =>
    rw [e0] at gx
    cases gx
    have hp := List.mem_of_getElem? e0
    obtain ⟨p0, p1⟩ := gc.pl.2.1 pz hp
    obtain ⟨jj, rfl⟩ : ∃ j : Nat, pz = j := ⟨pz.toNat, by omega⟩
    have hj : jj < ts.length := by omega
    obtain ⟨u, gu, du⟩ := hys.getD (i := jj) (d := (ts[jj]).d) (by rw [List.getElem?_map, List.getElem?_eq_getElem hj]; rfl)
    have hk : ts[jj] ∈ (Tm.node con.nm ts).kids := List.getElem_mem hj
    have := Tm.ht_kid hk
    have gt : ts[((jj : Nat) : Int).toNat]? = some ts[jj] := List.getElem?_eq_getElem hj
    refine ⟨_, rfl, vTx rfl (Same.seqT s2 hs) rfl ⟨_, rfl, b2, ys, _, u, rfl, rfl, Same.seqT s2 hb2, atI_nat gu, p, cv, cs, u, ts[jj], rfl, lc.same s2, du.same s2, co.kid hk, nf.kid hk, by omega, fun H3 s3 => ⟨_, rfl, ?_⟩⟩⟩
    have s23 := s2.trans s3
    cases ek : vl cs ts[jj] with
    | true =>
      refine iteF ⟨_, rfl, s23, fun z hz => ?_⟩
      rw [take_snoc e0] at hz
      rcases List.mem_append.mp hz with h | h
      · exact nx z h
      · rw [List.mem_singleton.mp h, gt]; exact ek
    | false =>
      refine iteT (vTx rfl (Same.seqT s23 hs) rfl ⟨_, rfl, b2, ys, _, u, rfl, rfl, Same.seqT s23 hb2, atI_nat gu, q H3 u s23 ?_⟩)
      rw [eo, inn_at e0 gt ek nx]
      exact du.same s23
  rintro σ H2 ⟨o, rfl, s2, nx⟩
  rw [List.length_map, List.take_length] at nx
  refine q H2 .non s2 ?_
  rw [eo, inn_none nx]
  rfl
theorem ok_std {n : Nat} {f : Addr} {fd : FuncData} (F : Fun K "_law_standing" "_law_standing" s_law_standing f fd) (T : Txt K mg) (C_law_inner : C8.Cal P w K mg base (n + 2) "_law_inner" (spInn K n) []) :
    FnOk P w K mg base CX0 (n + 3) f fd ["constructors", "term"] (spStd K n) := by
  refine F.ok sc_law_standing (fun vs H Q E h => ?_) (fun cdv A outer s H vs Q E hr h => ?_)
  · obtain ⟨_, _, _, _, _, rfl, _⟩ := h
    rfl
  obtain ⟨p, cv, cs, v, t, rfl, lc, hv, co, nf, hh, hn, q⟩ := h
  refine ⟨_, (pss_cons (ps_for PassesOwn.never rfl (pi_range1 (by rfl) T.z_range (pa_cons pe_int pa_nil)) (pg_name (i := 2) sc_law_standing.nd rfl (Or.inl rfl)) (pss_cons (ps_set (i := 3) sc_law_standing.nd rfl (Or.inl rfl) (C8.pe_c C_law_inner hr (by omega) rfl (pa_cons (pv 0) (pa_cons (pv 1) pa_nil))))
    (pss_cons (ps_if (pt_cmpR op_isN (pv 3) pe_non (nomark _)) (pss_one (ps_ret (pv 1))) pss_nil)
    (pss_one (ps_set (i := 1) sc_law_standing.nd rfl (Or.inl rfl) (pv 3))))))
    (pss_one (ps_ret (pv 1)))), ?_⟩
  refine ⟨40, rfl, by omega, by omega, for_range (lo := 0) (n := (40 : Int).toNat) (fun i σ H' => ∃ (v' : V) (t' : Tm) (o2 o3 : Option V), σ = [some (.ref p), some v', o2, o3] ∧ Same H H' ∧ Dt K H' v' t'.d ∧ Al (prN cs) t' ∧ noF t' ∧ t'.ht ≤ n ∧ vl cs t' = false ∧ standN cs (40 - i) t' = standN cs 40 t) ?_ ?_ ?_⟩
  · exact ⟨v, t, _, _, rfl, Same.refl H, hv, co, nf, hh, hn, rfl⟩
  · rintro i σ H1 hi ⟨v', t', o2, o3, rfl, s1, dv, co', nf', hh', hn', es⟩
    have hi : i < 40 := hi
    refine ⟨_, rfl, _, rfl, p, cv, cs, v', t', rfl, lc.same s1, dv, co', nf', hh', vl_nd hn', fun H2 v2 s2 ot => ?_⟩
    have ek : 40 - i = (40 - (i + 1)) + 1 := by omega
    rw [ek] at es
    have es : (match inn cs t' with | none => t' | some u => standN cs (40 - (i + 1)) u) = standN cs 40 t := es
    cases e : inn cs t' with
    | none =>
      rw [e] at ot es
      obtain rfl : v2 = .non := ot
      refine ⟨_, rfl, rfl, _, rfl, iteT ⟨_, rfl, q H2 v' (s1.trans s2) ?_⟩⟩
      rw [← es]
      exact dv.same s2
    | some u =>
      rw [e] at ot es
      have ot : Dt K H2 v2 u.d := ot
      obtain ⟨hk, hu⟩ := inn_kid e
      have hkt := Tm.ht_kid hk
      have nz : decide (v2 = V.non) = false := by
        obtain ⟨c, ts, rfl⟩ := vl_nd hu
        unfold Tm.d at ot
        obtain ⟨a, x, y, z, rfl, _⟩ := Dt.t3 ot
        rfl
      refine ⟨_, rfl, rfl, _, rfl, ?_⟩
      rw [nz]
      exact iteF ⟨_, rfl, v2, u, _, _, rfl, s1.trans s2, ot, co'.kid hk, nf'.kid hk, by omega, hu, es⟩
  rintro σ H1 ⟨v', t', o2, o3, rfl, s1, dv, co', nf', hh', hn', es⟩
  refine ⟨_, rfl, q H1 v' s1 ?_⟩
  rw [← es]
  exact dv
theorem ok_cms {n k : Nat} {f : Addr} {fd : FuncData} (F : Fun K "_law_comes_to" "_law_comes_to" s_law_comes_to f fd) (T : Txt K mg) (C_law_inner : C8.Cal P w K mg base (n + 2) "_law_inner" (spInn K n) []) (C_law_same : C8.Cal P w K mg base k "_law_same" (spSame K 98) []) (hk : n + 2 ≤ k) :
    FnOk P w K mg base CX0 (k + 1) f fd ["constructors", "term", "wanted"] (spCms K n) := by
  refine F.ok sc_law_comes_to (fun vs H Q E h => ?_) (fun cdv A outer s H vs Q E hr h => ?_)
  · obtain ⟨_, _, _, _, _, _, _, _, rfl, _⟩ := h
    rfl
  obtain ⟨p, cv, cs, v, w', t, u, m, rfl, lc, hv, hw, co, nf, hh, nfu, hu, pa, hm, q⟩ := h
  refine ⟨_, (pss_cons (ps_for PassesOwn.never rfl (pi_range1 (by rfl) T.z_range (pa_cons pe_int pa_nil)) (pg_name (i := 3) sc_law_comes_to.nd rfl (Or.inl rfl)) (pss_cons (ps_if (PW.pt (pw_and (pt_cmpR op_notN (pv 1) pe_non (nomark _)) (pw_and1 (pt_val (C8.pe_c C_law_same hr (by omega) rfl (pa_cons (pv 1) (pa_cons (pv 2) pa_nil))))))) (pss_one (ps_ret pe_bl)) pss_nil)
    (pss_cons (ps_if (PW.pt (pw_or (pt_cmpR op_isN (pv 1) pe_non (nomark _)) (pw_or1 (pt_cmpR op_ne (pe_ix ix_tup (pv 1) pe_int (fun _ _ => rfl)) pe_str (nomark _))))) (pss_one (ps_ret pe_bl)) pss_nil)
    (pss_one (ps_set (i := 1) sc_law_comes_to.nd rfl (Or.inl rfl) (C8.pe_c C_law_inner hr (by omega) rfl (pa_cons (pv 0) (pa_cons (pv 1) pa_nil))))))))
    (pss_one (ps_ret pe_bl))), ?_⟩
  refine ⟨40, rfl, by omega, by omega, for_range (lo := 0) (n := (40 : Int).toNat) (fun i σ H' => ∃ (v' : V) (t' : Tm) (m' : Nat) (o3 : Option V), σ = [some (.ref p), some v', some w', o3] ∧ Same H H' ∧ Dt K H' v' t'.d ∧ Al (prN cs) t' ∧ noF t' ∧ t'.ht ≤ n ∧ Path cs m' t' u ∧ m' + i ≤ 39) ?_ ?_ ?_⟩
  · exact ⟨v, t, m, _, rfl, Same.refl H, hv, co, nf, hh, pa, hm⟩
  · rintro i σ H1 hi ⟨v', t', m', o3, rfl, s1, dv, co', nf', hh', pa', hm'⟩
    have nz : decide (v' = V.non) = false := by
      obtain ⟨a, r, rfl, _⟩ := Tm.dt_parts dv
      rfl
    have du := tm_depth nfu
    refine ⟨_, rfl, rfl, _, rfl, ?_⟩
    rw [nz]
    refine iteT ⟨_, rfl, _, rfl, v', w', t'.d, u.d, rfl, Dt.dp _ _ dv, Dt.dp _ _ (hw.same s1), by omega, tm_slim nfu, fun b H2 s2 eb => ⟨_, rfl, ?_⟩⟩
    have s12 := s1.trans s2
    cases hb : b with
    | true => exact iteT (q H2 s12)
    | false =>
      cases pa' with
      | zero _ => rw [hb] at eb; exact absurd (eb.mpr rfl) Bool.false_ne_true
      | step nd ei pa2 =>
        rename_i m2 u2
        obtain ⟨c, ts, rfl⟩ := nd
        have dv2 := dv.same s2
        have dv3 := dv2
        unfold Tm.d at dv3
        obtain ⟨a, x, y, z, rfl, hs, h1, h2, h3⟩ := Dt.t3 dv3
        obtain rfl := h1.s
        refine iteF ⟨_, rfl, rfl, _, rfl, iteF (vTx rfl hs rfl ⟨rfl, _, rfl, nF rfl ?_⟩)⟩
        refine ⟨_, rfl, _, rfl, p, cv, cs, _, _, rfl, lc.same s12, dv2, co', nf', hh', ⟨_, _, rfl⟩, fun H3 v3 s3 ot => ?_⟩
        rw [ei] at ot
        obtain ⟨hkk, _⟩ := inn_kid ei
        have hkt := Tm.ht_kid hkk
        exact ⟨v3, u2, m2, _, rfl, s12.trans s3, ot, co'.kid hkk, nf'.kid hkk, by omega, pa2, by omega⟩
  rintro σ H1 ⟨v', t', m', o3, rfl, s1, dv, co', nf', hh', pa', hm'⟩
  have : m' + 40 ≤ 39 := hm'
  omega
end
end PK
namespace PK
open PySem L2
/-! programs, and exchanged rows -/
theorem Tm.nh_node (c : Str) (ts : List Tm) : 1 ≤ (Tm.node c ts).nh := by rw [Tm.nh_eq, if_neg (by exact Bool.false_ne_true)]; omega
theorem Tm.nh_map (es : List (Str × Tm)) : 1 ≤ (Tm.map es).nh := by rw [Tm.nh_eq, if_neg (by exact Bool.false_ne_true)]; omega
def spAim (K : PySem.W.Frag) (n : Nat) : Sp := fun vs H Q _ => ∃ (l c : Addr) (cs : List Con) (v : V) (t : Tm), vs = [.ref l, v] ∧ Pool H l c ∧ Dt K H v t.d ∧ terOk cs t ∧ t.ht ≤ n ∧ ∀ (H' : Hp) (v' : V) (t' : Tm), Ext l c H H' → Dt K H' v' t'.d → terOk cs t' → t'.nh ≤ t.nh → Q v' H'
def spPrg (K : PySem.W.Frag) : Sp := fun vs H Q _ => ∃ (l c pc : Addr) (cv : List V) (cs : List Con), vs = [.ref l, .ref pc, .int (4 : Nat)] ∧ Pool H l c ∧ pc ≠ l ∧ H pc = some (.lst cv) ∧ DtAll K H cv (cs.map Con.d) ∧ (∀ x ∈ cs, x.ar ≤ 6) ∧ 0 < cs.length ∧ cs.length ≤ 7 ∧
  ∀ (H' : Hp) (v : V) (t : Tm), Ext l c H H' → Dt K H' v t.d → terOk cs t → t.nh ≤ 4 → Q v H'
def swTab (w0 w1 : Str) : Tab := [(w0, .var w1), (w1, .var w0)]
theorem DtAll.put {K : PySem.W.Frag} {H : Hp} {v : V} {d : PyData} : ∀ {xs : List V} {ds : List PyData} (i : Nat), DtAll K H xs ds → Dt K H v d → DtAll K H (xs.set i v) (ds.set i d)
  | _, _, _, .nil, _ => .nil
  | _, _, 0, .cons _ t, g => .cons g t
  | _, _, i + 1, .cons h t, g => .cons h (t.put i g)
def spExc (K : PySem.W.Frag) : Sp := fun vs H Q _ => ∃ (pc rt : Addr) (cv : List V) (cs : List Con) (R : List Rw), vs = [.ref pc, .ref rt] ∧ H pc = some (.lst cv) ∧ DtAll K H cv (cs.map Con.d) ∧ (∀ x ∈ cs, x.good ∧ x.ar ≤ 6) ∧ cs.length ≤ 7 ∧ R.length = cs.length ∧ Dt K H (.ref rt) (.tuple (R.map Rw.d)) ∧ (∀ r ∈ R, rwOk r) ∧ (∀ (i : Nat) (c : Con) (r : Rw), cs[i]? = some c → R[i]? = some r → r.ps.length = c.ar) ∧
  (∀ H', Same H H' → Q .non H') ∧ ∀ (H' : Hp) (v : V) (k : Nat) (c : Con) (r : Rw) (p0 p1 : Int) (l : List Int), Same H H' → cs[k]? = some c → R[k]? = some r → c.pl = p0 :: p1 :: l → Dt K H' v (.tuple [.tuple ((R.set k ⟨r.nm, r.ps, r.t.fill (swTab (r.ps.getD p0.toNat "") (r.ps.getD p1.toNat ""))⟩).map Rw.d), plD r.nm p0]) → Q v H'
section
variable {P : Program} {w : World} {K : PySem.W.Frag} {mg : Str → Option Value} {base : Heap}
abbrev s_law_atoms_in_maps : Stmt := topS 128
theorem sc_law_atoms_in_maps : FnScope ["pool", "term", "entry", "part"] ["pool", "term"] (defScope s_law_atoms_in_maps) := ⟨rfl, rfl, rfl, by decide +kernel, rfl, by decide +kernel, by decide +kernel⟩
-- slots: 0:pool(cell) 1:term 2:entry(comp) 3:part(comp)
abbrev s_law_program : Stmt := topS 127
theorem sc_law_program : FnScope ["pool", "constructors", "deep", "term"] ["pool", "constructors", "deep"] (defScope s_law_program) := ⟨rfl, rfl, rfl, by decide +kernel, rfl, by decide +kernel, by decide +kernel⟩
-- slots: 0:pool 1:constructors 2:deep 3:term
abbrev s_law_exchanged : Stmt := topS 126
theorem sc_law_exchanged : FnScope ["constructors", "rows", "found", "k", "strict", "table"] ["constructors", "rows"] (defScope s_law_exchanged) := ⟨rfl, rfl, rfl, by decide +kernel, rfl, by decide +kernel, by decide +kernel⟩
-- slots: 0:constructors 1:rows 2:found 3:k 4:strict 5:table
theorem ok_aim {n : Nat} {f : Addr} {fd : FuncData} (F : Fun K "_law_atoms_in_maps" "_law_atoms_in_maps" s_law_atoms_in_maps f fd) (T : Txt K mg) (C_law_atom : C8.Cal P w K mg base 4 "_law_atom" (spAtom K) []) (C_law_atoms_in_maps : C8.Cal P w K mg base (n + 4) "_law_atoms_in_maps" (spAim K n) []) :
    FnOk P w K mg base CX0 (n + 5) f fd ["pool", "term"] (spAim K (n + 1)) := by
  refine F.ok sc_law_atoms_in_maps (fun vs H Q E h => ?_) (fun cdv A outer s H vs Q E hr h => ?_)
  · obtain ⟨_, _, _, _, _, rfl, _⟩ := h
    rfl
  obtain ⟨l, c, cs, v, t, rfl, P0, hv, to, hh, q⟩ := h
  refine ⟨_, (pss_cons (ps_if (pt_cmpR op_eq (pe_ix ix_tup (pv 1) pe_int (fun _ _ => rfl)) pe_str (nomark _)) (pss_one (ps_ret (pe_tup (pa_cons pe_str (pa_cons (pe_callTy call_tuple_of (by rfl) T.z_tuple (by decide +kernel) (pa_cons (pe_lc (own := [("entry", 2)]) (g := (gName 2)) (tt := tYes) (by rfl) sc_law_atoms_in_maps.nd (pi_tup (pe_ix ix_tup (pv 1) pe_int (fun _ _ => rfl))) (blkOk_by (N := ["pool", "term", "entry", "part"]) (sc := defScope s_law_atoms_in_maps) (by decide +kernel)) (fun _ _ _ _ _ => (pg_name (i := 2) sc_law_atoms_in_maps.nd rfl (Or.inl rfl))) (fun _ _ _ _ _ => pts_nil) (fun _ _ _ _ _ => (pe_tup (pa_cons (pe_ix (r := rIxT K) ix_tup (pv 2) pe_int (fun _ _ => rfl)) (pa_cons (C8.pe_c C_law_atom hr (by omega) rfl (pa_cons (pv 0) pa_nil)) pa_nil))))) pa_nil)) pa_nil))))) pss_nil)
    (pss_cons (ps_if (pt_cmpR op_eq (pe_ix ix_tup (pv 1) pe_int (fun _ _ => rfl)) pe_str (nomark _)) (pss_one (ps_ret (pe_tup (pa_cons pe_str (pa_cons (pe_ix ix_tup (pv 1) pe_int (fun _ _ => rfl)) (pa_cons (pe_callTy call_tuple_of (by rfl) T.z_tuple (by decide +kernel) (pa_cons (pe_lc (own := [("part", 3)]) (g := (gName 3)) (tt := tYes) (by rfl) sc_law_atoms_in_maps.nd (pi_tup (pe_ix ix_tup (pv 1) pe_int (fun _ _ => rfl))) (blkOk_by (N := ["pool", "term", "entry", "part"]) (sc := defScope s_law_atoms_in_maps) (by decide +kernel)) (fun _ _ _ _ _ => (pg_name (i := 3) sc_law_atoms_in_maps.nd rfl (Or.inl rfl))) (fun _ _ _ _ _ => pts_nil) (fun _ _ _ _ _ => (C8.pe_c C_law_atoms_in_maps hr (by omega) rfl (pa_cons (pv 0) (pa_cons (pv 3) pa_nil))))) pa_nil)) pa_nil)))))) pss_nil)
    (pss_one (ps_ret (pv 1))))), ?_⟩
  have q0 := q H v t (Ext.refl P0) hv to (Nat.le_refl _)
  cases t with
  | map es =>
    unfold Tm.d at hv
    obtain ⟨a, x, y, rfl, hs, h1, h2⟩ := Dt.t2 hv
    obtain rfl := h1.s
    obtain ⟨b, ys, rfl, hb, hys⟩ := Dt.tn h2
    rw [Tm.es_map] at hys
    have ly : ys.length = es.length := by rw [hys.lenD, List.length_map]
    have l6 : es.length ≤ 6 := by have := to.at_.1; rw [show (Tm.map es).kids = es.map Prod.snd from rfl, List.length_map] at this; exact this
    refine vTx rfl hs rfl ⟨rfl, _, rfl, sT rfl (vTx rfl hs rfl ⟨b, rfl, ⟨_, hb⟩, fun D hD => lcX (K := K) (walk_tup (xs := ys)) P0 hD (by omega) (fun ds => ∃ es' : List (Str × Tm), ds = es'.map Tm.ent ∧ ∀ e ∈ es', e.2.atom) ⟨[], rfl, fun e he => absurd he List.not_mem_nil⟩ (fun H' x => x.seqT P0 hb) ?_ ?_⟩)⟩
    · rintro i z H1 H1 ds R hi x1 ⟨rfl, gz⟩ ⟨es', rfl, ok⟩ len r
      obtain ⟨d, gd, dz⟩ := DtAll.getX hys gz
      rw [List.getElem?_map] at gd
      cases e0 : es[i]? with
      | none => rw [e0] at gd; cases gd
      | some e =>
      rw [e0] at gd
      cases gd
      unfold Tm.ent at dz
      obtain ⟨a1, u1, w1, rfl, hs1, j1, j2⟩ := Dt.t2 dz
      obtain rfl := j1.s
      refine ⟨rfl, vTx rfl (x1.seqT P0 hs1) rfl ⟨_, rfl, l, c, rfl, x1.pool, fun H2 v2 t2 x2 d2 at2 => ⟨small (by show 2 ≤ _; decide), fun p hp => r (Tm.ent (e.1, t2)) _ _ (x2.new x1.pool hp) ?_ ⟨es' ++ [(e.1, t2)], by rw [List.map_append]; rfl, fun e' he => ?_⟩⟩⟩⟩
      · unfold Tm.ent
        exact Dt.mk2 hp (.str _) d2
      · rcases List.mem_append.mp he with h | h
        · exact ok e' h
        · rw [List.mem_singleton.mp h]; exact at2
    rintro H1 ws ds x1 hws da len ⟨es', rfl, ok⟩
    rw [List.length_map] at len
    refine ⟨D, _, rfl, .inl ⟨SqL.of hws, fun p1 hp1 => ⟨small (by show 2 ≤ _; decide), fun p2 hp2 => ?_⟩⟩⟩
    have x2 := (x1.new (o := .tup ws) P0 hp1).new (o := .tup [.str "map", .ref p1]) P0 hp2
    refine q _ _ (.map es') x2 ?_ ?_ ?_
    · unfold Tm.d
      rw [Tm.es_map]
      exact Dt.mk2 hp2 (.str _) (.tup (SqT.of upd_same) (da.same (same_new hp1)))
    · refine .mk ⟨by show (es'.map Prod.snd).length ≤ 6; rw [List.length_map]; omega, fun c ts e => (by cases e), fun f ts e => (by cases e)⟩ fun k hk => ?_
      obtain ⟨e, he, rfl⟩ := List.mem_map.mp hk
      exact (ter_atom (ok e he) (d := 0)).1
    · have h1 := Tm.nh_map es
      have := Tm.nh_le (t := .map es') (n := 0) fun k hk => by
        obtain ⟨e, he, rfl⟩ := List.mem_map.mp hk
        exact (ter_atom (cs := cs) (ok e he) (d := 0)).2
      omega
  | node c' ts =>
    unfold Tm.d at hv
    obtain ⟨a, x, y, z, rfl, hs, h1, h2, h3⟩ := Dt.t3 hv
    obtain rfl := h1.s
    obtain rfl := h2.s
    obtain ⟨b, ys, rfl, hb, hys⟩ := Dt.tn h3
    rw [Tm.ds_map] at hys
    have ly : ys.length = ts.length := by rw [hys.lenD, List.length_map]
    have l6 : ts.length ≤ 6 := to.at_.1
    refine vTx rfl hs rfl ⟨rfl, _, rfl, sF (by decide +kernel) (vTx rfl hs rfl ⟨rfl, _, rfl, sT rfl (vTx rfl hs rfl (vTx rfl hs rfl ⟨b, rfl, ⟨_, hb⟩, fun D hD => lcX (K := K) (walk_tup (xs := ys)) P0 hD (by omega) (fun ds => ∃ ts' : List Tm, ds = ts'.map Tm.d ∧ ∀ k ∈ ts', terOk cs k ∧ k.nh + 1 ≤ (Tm.node c' ts).nh) ⟨[], rfl, fun e he => absurd he List.not_mem_nil⟩ (fun H' x => x.seqT P0 hb) ?_ ?_⟩))⟩)⟩
    · rintro i z H1 H1 ds R hi x1 ⟨rfl, gz⟩ ⟨ts', rfl, ok⟩ len r
      obtain ⟨d, gd, dz⟩ := DtAll.getX hys gz
      rw [List.getElem?_map] at gd
      cases e0 : ts[i]? with
      | none => rw [e0] at gd; cases gd
      | some e =>
      rw [e0] at gd
      cases gd
      have hk : e ∈ (Tm.node c' ts).kids := List.mem_of_getElem? e0
      have h1 := Tm.ht_kid hk
      have h2 := Tm.nh_kid hk
      refine ⟨rfl, _, rfl, _, rfl, l, c, cs, _, e, rfl, x1.pool, dz.ext P0 x1, to.kid hk, by omega, fun H2 v2 t2 x2 d2 to2 nh2 => r t2.d _ _ x2 d2 ⟨ts' ++ [t2], by rw [List.map_append]; rfl, fun k hk => ?_⟩⟩
      rcases List.mem_append.mp hk with h | h
      · exact ok k h
      · rw [List.mem_singleton.mp h]; exact ⟨to2, by omega⟩
    rintro H1 ws ds x1 hws da len ⟨ts', rfl, ok⟩
    rw [List.length_map] at len
    refine ⟨D, _, rfl, .inl ⟨SqL.of hws, fun p1 hp1 => ⟨small (by show 3 ≤ _; decide), fun p2 hp2 => ?_⟩⟩⟩
    have x2 := (x1.new (o := .tup ws) P0 hp1).new (o := .tup [.str "node", .str c', .ref p1]) P0 hp2
    obtain ⟨x0, hx, e1, e2⟩ := to.at_.2.1 c' ts rfl
    refine q _ _ (.node c' ts') x2 ?_ ?_ ?_
    · unfold Tm.d
      rw [Tm.ds_map]
      exact Dt.mk3 hp2 (.str _) (.str _) (.tup (SqT.of upd_same) (da.same (same_new hp1)))
    · exact .mk ⟨by show ts'.length ≤ 6; omega, fun c ts e => (by cases e; exact ⟨x0, hx, e1, by omega⟩), fun f ts e => (by cases e)⟩ fun k hk => (ok k hk).1
    · have h1 := Tm.nh_node c' ts
      have := Tm.nh_le (t := .node c' ts') (n := (Tm.node c' ts).nh - 1) fun k hk => by have := (ok k hk).2; omega
      omega
  | form g ts => exact absurd rfl (to.at_.2.2 g ts)
  | int m =>
    unfold Tm.d at hv
    obtain ⟨a, x, y, rfl, hs, h1, h2⟩ := Dt.t2 hv
    obtain rfl := h1.s
    exact vTx rfl hs rfl ⟨rfl, _, rfl, sF (by decide +kernel) (vTx rfl hs rfl ⟨rfl, _, rfl, sF (by decide +kernel) ⟨_, rfl, q0⟩⟩)⟩
  | name m =>
    unfold Tm.d at hv
    obtain ⟨a, x, y, rfl, hs, h1, h2⟩ := Dt.t2 hv
    obtain rfl := h1.s
    exact vTx rfl hs rfl ⟨rfl, _, rfl, sF (by decide +kernel) (vTx rfl hs rfl ⟨rfl, _, rfl, sF (by decide +kernel) ⟨_, rfl, q0⟩⟩)⟩
  | addr m =>
    unfold Tm.d at hv
    obtain ⟨a, x, y, rfl, hs, h1, h2⟩ := Dt.t2 hv
    obtain rfl := h1.s
    exact vTx rfl hs rfl ⟨rfl, _, rfl, sF (by decide +kernel) (vTx rfl hs rfl ⟨rfl, _, rfl, sF (by decide +kernel) ⟨_, rfl, q0⟩⟩)⟩
  | var m =>
    unfold Tm.d at hv
    obtain ⟨a, x, y, rfl, hs, h1, h2⟩ := Dt.t2 hv
    obtain rfl := h1.s
    exact vTx rfl hs rfl ⟨rfl, _, rfl, sF (by decide +kernel) (vTx rfl hs rfl ⟨rfl, _, rfl, sF (by decide +kernel) ⟨_, rfl, q0⟩⟩)⟩
theorem ok_prg {f : Addr} {fd : FuncData} (F : Fun K "_law_program" "_law_program" s_law_program f fd) (C_law_term : C8.Cal P w K mg base 9 "_law_term" (spTerm K 5) []) (C_law_atoms_in_maps : C8.Cal P w K mg base 9 "_law_atoms_in_maps" (spAim K 5) []) :
    FnOk P w K mg base CX0 10 f fd ["pool", "constructors", "deep"] (spPrg K) := by
  refine F.ok sc_law_program (fun vs H Q E h => ?_) (fun cdv A outer s H vs Q E hr h => ?_)
  · obtain ⟨_, _, _, _, _, rfl, _⟩ := h
    rfl
  obtain ⟨l, c, pc, cv, cs, rfl, P0, npc, hpc, dcs, ac, c0, l7, q⟩ := h
  refine ⟨_, (pss_cons (ps_set (i := 3) sc_law_program.nd rfl (Or.inl rfl) (C8.pe_c C_law_term hr (by decide) rfl (pa_cons (pv 0) (pa_cons (pv 1) (pa_cons (pv 2) (pa_cons (pe_lst pa_nil) pa_nil))))))
    (pss_one (ps_ret (C8.pe_c C_law_atoms_in_maps hr (by decide) rfl (pa_cons (pv 0) (pa_cons (pv 3) pa_nil)))))), ?_⟩
  refine ⟨_, rfl, _, rfl, _, rfl, Nat.zero_le _, fun pw hpw => ?_⟩
  have x1 := (Ext.refl P0).new (o := .lst []) P0 hpw
  refine ⟨l, c, pc, pw, cv, cs, [], 4, rfl, by decide, x1.pool, npc, (P0.ne hpw).1, x1.keep _ _ npc hpc, dcs.ext P0 x1, ac, c0, l7, upd_same, Nat.zero_le _, fun H2 v2 t2 x2 d2 to2 nh2 => ?_⟩
  have h5 := t2.ht_nh
  exact ⟨_, rfl, _, rfl, l, c, cs, v2, t2, rfl, x2.pool, d2, to2, by omega, fun H3 v3 t3 x3 d3 to3 nh3 => q H3 v3 t3 ((x1.trans x2).trans x3) d3 to3 (by omega)⟩
theorem ok_exc {f : Addr} {fd : FuncData} (F : Fun K "_law_exchanged" "_law_exchanged" s_law_exchanged f fd) (T : Txt K mg) (C_law_filled : C8.Cal P w K mg base 12 "_law_filled" (spFil K 12) []) : FnOk P w K mg base CX0 13 f fd ["constructors", "rows"] (spExc K) := by
  refine F.ok sc_law_exchanged (fun vs H Q E h => ?_) (fun cdv A outer s H vs Q E hr h => ?_)
  · obtain ⟨_, _, _, _, _, rfl, _⟩ := h
    rfl
  obtain ⟨pc, rt, cv, cs, R, rfl, hpc, dcs, okc, l7, lR, dR, ro, pa, qn, qy⟩ := h
  refine ⟨_, (pss_cons (ps_set (i := 2) sc_law_exchanged.nd rfl (Or.inl rfl) (pe_callTy call_list_of (by rfl) T.z_list (by decide +kernel) (pa_cons (pv 1) pa_nil)))
    (pss_cons (ps_for PassesOwn.never rfl (pi_range1 (by rfl) T.z_range (pa_cons (pe_callB call_len_seq (by rfl) T.z_len (by decide +kernel) (pa_cons (pv 1) pa_nil)) pa_nil)) (pg_name (i := 3) sc_law_exchanged.nd rfl (Or.inl rfl)) (pss_cons (ps_set (i := 4) sc_law_exchanged.nd rfl (Or.inl rfl) (pe_ix ix_tup (pe_ix ix_list (pv 0) (pv 3) (fun _ _ => rfl)) pe_int (fun _ _ => rfl)))
    (pss_one (ps_if (pt_cmpR op_gt (pe_callB call_len_seq (by rfl) T.z_len (by decide +kernel) (pa_cons (pv 4) pa_nil)) pe_int (nomark _)) (pss_cons (ps_set (i := 5) sc_law_exchanged.nd rfl (Or.inl rfl) pe_dnewK)
    (pss_cons (ps_dput (hu_of hr) (pv 5) (pe_ix ix_tup (pe_ix ix_tup (pe_ix ix_tup (pv 1) (pv 3) (fun _ _ => rfl)) pe_int (fun _ _ => rfl)) (pe_ix ix_tup (pv 4) pe_int (fun _ _ => rfl)) (fun _ _ => rfl)) (pe_tup (pa_cons pe_str (pa_cons (pe_ix ix_tup (pe_ix ix_tup (pe_ix ix_tup (pv 1) (pv 3) (fun _ _ => rfl)) pe_int (fun _ _ => rfl)) (pe_ix ix_tup (pv 4) pe_int (fun _ _ => rfl)) (fun _ _ => rfl)) pa_nil))) rfl)
    (pss_cons (ps_dput (hu_of hr) (pv 5) (pe_ix ix_tup (pe_ix ix_tup (pe_ix ix_tup (pv 1) (pv 3) (fun _ _ => rfl)) pe_int (fun _ _ => rfl)) (pe_ix ix_tup (pv 4) pe_int (fun _ _ => rfl)) (fun _ _ => rfl)) (pe_tup (pa_cons pe_str (pa_cons (pe_ix ix_tup (pe_ix ix_tup (pe_ix ix_tup (pv 1) (pv 3) (fun _ _ => rfl)) pe_int (fun _ _ => rfl)) (pe_ix ix_tup (pv 4) pe_int (fun _ _ => rfl)) (fun _ _ => rfl)) pa_nil))) rfl)
    (pss_cons (ps_asg (pe_tup (pa_cons (pe_ix ix_tup (pe_ix ix_tup (pv 1) (pv 3) (fun _ _ => rfl)) pe_int (fun _ _ => rfl)) (pa_cons (pe_ix ix_tup (pe_ix ix_tup (pv 1) (pv 3) (fun _ _ => rfl)) pe_int (fun _ _ => rfl)) (pa_cons (C8.pe_c C_law_filled hr (by decide) rfl (pa_cons (pe_ix ix_tup (pe_ix ix_tup (pv 1) (pv 3) (fun _ _ => rfl)) pe_int (fun _ _ => rfl)) (pa_cons (pv 5) pa_nil))) pa_nil)))) (pg_sub (pv 2) (pv 3) set_list))
    (pss_one (ps_ret (pe_tup (pa_cons (pe_callTy call_tuple_of (by rfl) T.z_tuple (by decide +kernel) (pa_cons (pv 2) pa_nil)) (pa_cons (pe_tup (pa_cons pe_str (pa_cons (pe_ix ix_tup (pe_ix ix_tup (pv 1) (pv 3) (fun _ _ => rfl)) pe_int (fun _ _ => rfl)) (pa_cons (pe_ix ix_tup (pv 4) pe_int (fun _ _ => rfl)) pa_nil)))) pa_nil))))))))) pss_nil))))
    (pss_one (ps_ret pe_non)))), ?_⟩
  obtain ⟨_, rv, e2, hrt, drv⟩ := Dt.tn dR
  cases e2
  have lrv : rv.length = R.length := by rw [drv.lenD, List.length_map]
  have lcv : cv.length = cs.length := by rw [dcs.lenD, List.length_map]
  refine ⟨_, rfl, rt, rv, rfl, .inr hrt, fun Lf hLf => ?_⟩
  have s1 := same_new (o := .lst rv) hLf
  refine ⟨_, rfl, rt, _, rfl, .inr (Same.seqT s1 hrt), _, rfl, by omega, by omega, for_range (lo := 0) (n := ((rv.length : Nat) : Int).toNat) (fun i σ H' => ∃ (o3 o4 : Option V), σ = [some (.ref pc), some (.ref rt), some (.ref Lf), o3, o4, none] ∧ Same H H' ∧ H' Lf = some (.lst rv)) ?_ ?_ ?_⟩
  · exact ⟨_, _, rfl, s1, upd_same⟩
  · rintro i σ H2 hi ⟨o3, o4, rfl, s2, hf2⟩
    have hi : i < cs.length := by omega
    have hi2 : i < R.length := by omega
    have e0 : cs[i]? = some cs[i] := List.getElem?_eq_getElem hi
    have e1 : R[i]? = some R[i] := List.getElem?_eq_getElem hi2
    have hcon : cs[i] ∈ cs := List.getElem_mem hi
    have hr1 : R[i] ∈ R := List.getElem_mem hi2
    generalize cs[i] = con at e0 hcon
    generalize R[i] = r at e1 hr1
    obtain ⟨gc, gA⟩ := okc con hcon
    have rok := ro r hr1
    have lps := pa i con r e0 e1
    obtain ⟨cv1, gcv, dcv⟩ := dcs.getD (i := i) (d := con.d) (by rw [List.getElem?_map, e0]; rfl)
    obtain ⟨rw_, grv, drw⟩ := drv.getD (i := i) (d := r.d) (by rw [List.getElem?_map, e1]; rfl)
    obtain ⟨a1, b1, rfl, hs1, hb1⟩ := Con.get4 dcv
    have drw0 := drw
    unfold Rw.d at drw
    obtain ⟨a2, x2, y2, z2, rfl, hs2, g1, g2, g3⟩ := Dt.t3 drw
    obtain rfl := g1.s
    obtain ⟨b2, ys, rfl, hb2, hys⟩ := Dt.tn g2
    rw [hys.strsE] at hb2
    have ii : (0 + (i : Int)) = (i : Nat) := Int.zero_add _
    have at1 : atI cv (0 + (i : Int)) = some (.ref a1) := by rw [ii]; exact atI_nat gcv
    have at2 : atI rv (0 + (i : Int)) = some (.ref a2) := by rw [ii]; exact atI_nat grv
    refine ⟨_, rfl, _, rfl, pc, cv, _, .ref a1, rfl, rfl, SqL.of (s2 _ _ hpc), at1, a1, _, 3, _, rfl, rfl, Same.seqT s2 hs1, atI_nat (j := 3) rfl, ?_⟩
    refine ⟨_, rfl, b1, _, rfl, .inr (Same.seqT s2 hb1), _, _, rfl, rfl, _, rfl, ?_⟩
    rw [List.length_map]
    by_cases hl : 1 < con.pl.length
    · rw [show decide ((((con.pl.length : Nat)) : Int) > 1) = true from decide_eq_true (by omega)]
      refine iteT ?_
      obtain ⟨p0, p1, l, epl⟩ : ∃ p0 p1 l, con.pl = p0 :: p1 :: l := by
        cases e : con.pl with
        | nil => rw [e] at hl; exact absurd hl (by decide)
        | cons p0 t =>
          cases t with
          | nil => rw [e] at hl; exact absurd hl (by show ¬ 1 < 1; decide)
          | cons p1 l => exact ⟨p0, p1, l, rfl⟩
      have m0 := gc.pl.2.1 p0 (by rw [epl]; exact List.mem_cons_self)
      have m1 := gc.pl.2.1 p1 (by rw [epl]; exact List.mem_cons_of_mem _ List.mem_cons_self)
      have wd : ∀ p : Int, 0 ≤ p → p < (con.ar : Int) → atI (r.ps.map V.str) p = some (.str (r.ps.getD p.toNat "")) := fun p h0 h1 => by
        obtain ⟨j, rfl⟩ : ∃ j : Nat, p = j := ⟨p.toNat, by omega⟩
        refine atI_nat ?_
        rw [List.getElem?_map, List.getD_eq_getElem?_getD, show ((j : Nat) : Int).toNat = j from rfl, List.getElem?_eq_getElem (by omega)]; rfl
      have st0 : atI (con.pl.map V.int) 0 = some (.int p0) := by rw [epl]; exact atI_nat (j := 0) rfl
      have st1 : atI (con.pl.map V.int) 1 = some (.int p1) := by rw [epl]; exact atI_nat (j := 1) rfl
      have w0 := wd p0 m0.1 m0.2
      have w1 := wd p1 m1.1 m1.2
      refine fun D hD => ?_
      have s3 := same_new (o := .dK []) hD
      have hD3 : (upd H2 D (.dK [])) D = some (.dK []) := upd_same
      have s23 := s2.trans s3
      have hf3 := s3 _ _ hf2
      have nDf : D ≠ Lf := (ne_of_none hf2 hD).symm
      have fD : H D = none := s2.free hD
      generalize upd H2 D (HO.dK []) = H3 at *
      -- the first word
      refine ⟨_, rfl, _, rfl, rt, rv, _, .ref a2, rfl, rfl, Same.seqT s23 hrt, at2, a2, _, 1, _, rfl, rfl, Same.seqT s23 hs2, atI_nat (j := 1) rfl, _, rfl, b1, _, 1, _, rfl, rfl, Same.seqT s23 hb1, st1, b2, _, _, _, rfl, rfl, Same.seqT s23 hb2, w1, small (by show 2 ≤ _; decide), fun p4 hp4 => ?_⟩
      have s4 := same_new (o := .tup [.str "meta", .str (r.ps.getD p1.toNat "")]) hp4
      have hD4 := s4 _ _ hD3
      have dm1 : Dt K (upd H3 p4 (.tup [.str "meta", .str (r.ps.getD p1.toNat "")])) (.ref p4) (Tm.var (r.ps.getD p1.toNat "")).d := by
        unfold Tm.d
        exact Dt.mk2 hp4 (.str _) (.str _)
      have s24 := s23.trans s4
      refine ⟨_, rfl, _, rfl, _, rfl, rt, rv, _, .ref a2, rfl, rfl, Same.seqT s24 hrt, at2, a2, _, 1, _, rfl, rfl, Same.seqT s24 hs2, atI_nat (j := 1) rfl, _, rfl, b1, _, 0, _, rfl, rfl, Same.seqT s24 hb1, st0, b2, _, _, _, rfl, rfl, Same.seqT s24 hb2, w0, D, _, rfl, DPut.k (k := Sum.inr (r.ps.getD p0.toNat "")) hD4 (smallL (by decide)), ?_⟩
      have bd5 : BindE K (upd (upd H3 p4 (.tup [.str "meta", .str (r.ps.getD p1.toNat "")])) D (.dK (putK [] (.inr (r.ps.getD p0.toNat "")) (.ref p4)))) (putK [] (.inr (r.ps.getD p0.toNat "")) (.ref p4)) ([] ++ [(r.ps.getD p0.toNat "", .var (r.ps.getD p1.toNat ""))]) :=
        (BindE.nil.put dm1).mono fun _ _ z => Dt.mono (fun _ _ z => seqT_updK z hD4) _ _ z
      have hD5 : (upd (upd H3 p4 (.tup [.str "meta", .str (r.ps.getD p1.toNat "")])) D (.dK (putK [] (.inr (r.ps.getD p0.toNat "")) (.ref p4)))) D = some (.dK (putK [] (.inr (r.ps.getD p0.toNat "")) (.ref p4))) := upd_same
      have hf5 : (upd (upd H3 p4 (.tup [.str "meta", .str (r.ps.getD p1.toNat "")])) D (.dK (putK [] (.inr (r.ps.getD p0.toNat "")) (.ref p4)))) Lf = some (.lst rv) := by rw [upd_ne nDf.symm]; exact s4 _ _ hf3
      have s25 := Same.upd (o := .dK (putK [] (.inr (r.ps.getD p0.toNat "")) (.ref p4))) s24 fD
      generalize upd (upd H3 p4 (HO.tup [V.str "meta", V.str (r.ps.getD p1.toNat "")])) D (HO.dK (putK [] (.inr (r.ps.getD p0.toNat "")) (V.ref p4))) = H5 at *
      -- the second word
      refine ⟨_, rfl, _, rfl, rt, rv, _, .ref a2, rfl, rfl, Same.seqT s25 hrt, at2, a2, _, 1, _, rfl, rfl, Same.seqT s25 hs2, atI_nat (j := 1) rfl, _, rfl, b1, _, 0, _, rfl, rfl, Same.seqT s25 hb1, st0, b2, _, _, _, rfl, rfl, Same.seqT s25 hb2, w0, small (by show 2 ≤ _; decide), fun p6 hp6 => ?_⟩
      have s6 := same_new (o := .tup [.str "meta", .str (r.ps.getD p0.toNat "")]) hp6
      have hD6 := s6 _ _ hD5
      have dm2 : Dt K (upd H5 p6 (.tup [.str "meta", .str (r.ps.getD p0.toNat "")])) (.ref p6) (Tm.var (r.ps.getD p0.toNat "")).d := by
        unfold Tm.d
        exact Dt.mk2 hp6 (.str _) (.str _)
      have s26 := s25.trans s6
      refine ⟨_, rfl, _, rfl, _, rfl, rt, rv, _, .ref a2, rfl, rfl, Same.seqT s26 hrt, at2, a2, _, 1, _, rfl, rfl, Same.seqT s26 hs2, atI_nat (j := 1) rfl, _, rfl, b1, _, 1, _, rfl, rfl, Same.seqT s26 hb1, st1, b2, _, _, _, rfl, rfl, Same.seqT s26 hb2, w1, D, _, rfl, DPut.k (k := Sum.inr (r.ps.getD p1.toNat "")) hD6 (smallL (by have := length_putK ([] : List (Key × V)) (.inr (r.ps.getD p0.toNat "")) (V.ref p4); show _ < 16777216; rw [List.length_nil] at this; omega)), ?_⟩
      have bd7 : BindE K (upd (upd H5 p6 (.tup [.str "meta", .str (r.ps.getD p0.toNat "")])) D (.dK (putK (putK [] (.inr (r.ps.getD p0.toNat "")) (.ref p4)) (.inr (r.ps.getD p1.toNat "")) (.ref p6)))) (putK (putK [] (.inr (r.ps.getD p0.toNat "")) (.ref p4)) (.inr (r.ps.getD p1.toNat "")) (.ref p6)) (swTab (r.ps.getD p0.toNat "") (r.ps.getD p1.toNat "")) :=
        ((bd5.mono fun _ _ z => z.same s6).put dm2).mono fun _ _ z => Dt.mono (fun _ _ z => seqT_updK z hD6) _ _ z
      have hD7 : (upd (upd H5 p6 (.tup [.str "meta", .str (r.ps.getD p0.toNat "")])) D (.dK (putK (putK [] (.inr (r.ps.getD p0.toNat "")) (.ref p4)) (.inr (r.ps.getD p1.toNat "")) (.ref p6)))) D = some (.dK (putK (putK [] (.inr (r.ps.getD p0.toNat "")) (.ref p4)) (.inr (r.ps.getD p1.toNat "")) (.ref p6))) := upd_same
      have hf7 : (upd (upd H5 p6 (.tup [.str "meta", .str (r.ps.getD p0.toNat "")])) D (.dK (putK (putK [] (.inr (r.ps.getD p0.toNat "")) (.ref p4)) (.inr (r.ps.getD p1.toNat "")) (.ref p6)))) Lf = some (.lst rv) := by rw [upd_ne nDf.symm]; exact s6 _ _ hf5
      have s27 := Same.upd (o := .dK (putK (putK [] (.inr (r.ps.getD p0.toNat "")) (.ref p4)) (.inr (r.ps.getD p1.toNat "")) (.ref p6))) s26 fD
      generalize upd (upd H5 p6 (HO.tup [V.str "meta", V.str (r.ps.getD p0.toNat "")])) D (HO.dK (putK (putK [] (.inr (r.ps.getD p0.toNat "")) (V.ref p4)) (.inr (r.ps.getD p1.toNat "")) (V.ref p6))) = H7 at *
      -- the row
      refine ⟨_, rfl, _, rfl, rt, rv, _, .ref a2, rfl, rfl, Same.seqT s27 hrt, at2, a2, _, 0, _, rfl, rfl, Same.seqT s27 hs2, atI_nat (j := 0) rfl, _, rfl, _, rfl, rt, rv, _, .ref a2, rfl, rfl, Same.seqT s27 hrt, at2, a2, _, 1, _, rfl, rfl, Same.seqT s27 hs2, atI_nat (j := 1) rfl, _, rfl, _, rfl, rt, rv, _, .ref a2, rfl, rfl, Same.seqT s27 hrt, at2, a2, _, 2, _, rfl, rfl, Same.seqT s27 hs2, atI_nat (j := 2) rfl, _, rfl, z2, D, r.t, _, _, rfl, g3.same s27, hD7, bd7, tpl_noF rok.1, rok.2.1, fun H8 v8 s8 dv8 => ⟨small (by show 3 ≤ _; decide), fun p9 hp9 => ?_⟩⟩
      have s28 := s27.trans s8
      have s9 := same_new (o := .tup [.str r.nm, .ref b2, v8]) hp9
      have hf9 := s9 _ _ (s8 _ _ hf7)
      have dr9 : Dt K (upd H8 p9 (.tup [.str r.nm, .ref b2, v8])) (.ref p9) (Rw.d ⟨r.nm, r.ps, r.t.fill (swTab (r.ps.getD p0.toNat "") (r.ps.getD p1.toNat ""))⟩) := by
        unfold Rw.d
        exact Dt.mk3 hp9 (.str _) (g2.same s28) dv8
      have s29 := s28.trans s9
      have irv : i < rv.length := by omega
      refine ⟨_, rfl, _, rfl, Lf, rv, _, i, rfl, rfl, hf9, ?_, ?_⟩
      · rw [ii]
        unfold ixN
        rw [if_pos (by omega), if_pos (by omega)]; rfl
      have hf10 : (upd (upd H8 p9 (.tup [.str r.nm, .ref b2, v8])) Lf (.lst (rv.set i (.ref p9)))) Lf = some (.lst (rv.set i (.ref p9))) := upd_same
      have s210 := Same.upd (o := .lst (rv.set i (.ref p9))) s29 hLf
      have drs : DtAll K (upd (upd H8 p9 (.tup [.str r.nm, .ref b2, v8])) Lf (.lst (rv.set i (.ref p9)))) (rv.set i (.ref p9)) ((R.set i ⟨r.nm, r.ps, r.t.fill (swTab (r.ps.getD p0.toNat "") (r.ps.getD p1.toNat ""))⟩).map Rw.d) := by
        rw [List.map_set]
        exact ((drv.same s29).put i dr9).upd hf9
      generalize upd (upd H8 p9 (HO.tup [V.str r.nm, V.ref b2, v8])) Lf (HO.lst (rv.set i (V.ref p9))) = H10 at *
      refine ⟨_, rfl, Lf, _, rfl, .inl ⟨SqL.of hf10, fun p11 hp11 => ?_⟩⟩
      have s11 := same_new (o := .tup (rv.set i (.ref p9))) hp11
      have s211 := s210.trans s11
      refine ⟨_, rfl, _, rfl, rt, rv, _, .ref a2, rfl, rfl, Same.seqT s211 hrt, at2, a2, _, 0, _, rfl, rfl, Same.seqT s211 hs2, atI_nat (j := 0) rfl, _, rfl, b1, _, 0, _, rfl, rfl, Same.seqT s211 hb1, st0, small (by show 3 ≤ _; decide), fun p12 hp12 => ⟨small (by show 2 ≤ _; decide), fun p13 hp13 => ?_⟩⟩
      have s12 := same_new (o := .tup [.str "place", .str r.nm, .int p0]) hp12
      refine qy _ _ i con r p0 p1 l ((s211.trans s12).trans (same_new hp13)) e0 e1 epl ?_
      exact Dt.mk2 hp13 ((Dt.tup (SqT.of upd_same) (drs.same s11)).same s12) (Dt.mk3 (d := .str "place") (e := .str r.nm) (f := .int p0) hp12 (.str _) (.str _) (.int _))
    · rw [show decide ((((con.pl.length : Nat)) : Int) > 1) = false from decide_eq_false (by omega)]
      exact iteF ⟨_, _, rfl, s2, hf2⟩
  rintro σ H2 ⟨o3, o4, rfl, s2, hf2⟩
  exact qn H2 s2
end
end PK
namespace PK
open PySem L2
/-! the target, as the law finds it -/
theorem yP_fit : yP.fit := ⟨⟨by decide +kernel, by decide +kernel, ⟨_, _, rfl, by decide +kernel⟩, by decide +kernel⟩, by decide +kernel, by decide +kernel, ⟨by decide, by decide, by decide⟩⟩
theorem yV_fit : yV.fit := ⟨⟨by decide +kernel, by decide +kernel, ⟨_, _, rfl, by decide +kernel⟩, by decide +kernel⟩, by decide +kernel, by decide +kernel, ⟨by decide, by decide, by decide⟩⟩
theorem not_y {c : Con} (g : c.good) : c.nm ≠ "yplain" ∧ c.nm ≠ "yvalue" := by
  obtain ⟨k, t⟩ := g.tag
  exact ⟨no_two (a := 108) (b := 97) (by decide +kernel) (by decide +kernel) (by decide +kernel) (by decide +kernel) (by decide) _ t, no_two (a := 108) (b := 97) (by decide +kernel) (by decide +kernel) (by decide +kernel) (by decide +kernel) (by decide) _ t⟩
section
variable {cs ds0 : List Con} {R : List Rw}
theorem TgOk.at_ (h : TgOk cs ds0 R) {c : Con} (hc : c ∈ cs) : ∃ x r os wr, x ∈ ds0 ∧ r ∈ R ∧ One c x r os os wr := by
  obtain ⟨i, hi, rfl⟩ := List.getElem_of_mem hc
  have l1 := h.l1
  have l2 := h.l2
  obtain ⟨os, wr, o⟩ := h.one i cs[i] (ds0[i]'(by omega)) (R[i]'(by omega)) (List.getElem?_eq_getElem hi) (List.getElem?_eq_getElem (by omega)) (List.getElem?_eq_getElem (by omega))
  exact ⟨_, _, os, wr, List.getElem_mem _, List.getElem_mem _, o⟩
theorem TgOk.nms (h : TgOk cs ds0 R) : ds0.map Con.nm = cs.map Con.nm ∧ R.map Rw.nm = cs.map Con.nm ∧ R.map (fun r => (r.nm, r.ps.length)) = cs.map (fun x => (x.nm, x.ar)) := by
  have l1 := h.l1
  have l2 := h.l2
  have key : ∀ (i : Nat) (hi : i < cs.length), (ds0[i]'(by omega)).nm = cs[i].nm ∧ (R[i]'(by omega)).nm = cs[i].nm ∧ (R[i]'(by omega)).ps.length = cs[i].ar := fun i hi => by
    obtain ⟨os, wr, o⟩ := h.one i cs[i] (ds0[i]'(by omega)) (R[i]'(by omega)) (List.getElem?_eq_getElem hi) (List.getElem?_eq_getElem (by omega)) (List.getElem?_eq_getElem (by omega))
    exact ⟨o.nm, o.rn, o.wl⟩
  refine ⟨List.ext_getElem (by rw [List.length_map, List.length_map, l1]) fun i h1 h2 => ?_, List.ext_getElem (by rw [List.length_map, List.length_map, l2]) fun i h1 h2 => ?_, List.ext_getElem (by rw [List.length_map, List.length_map, l2]) fun i h1 h2 => ?_⟩
  · rw [List.length_map] at h2
    rw [List.getElem_map, List.getElem_map]; exact (key i h2).1
  · rw [List.length_map] at h2
    rw [List.getElem_map, List.getElem_map]; exact (key i h2).2.1
  · rw [List.length_map] at h2
    rw [List.getElem_map, List.getElem_map, (key i h2).2.1, (key i h2).2.2]
theorem TgOk.all (h : TgOk cs ds0 R) (nd : (cs.map Con.nm).Nodup) (ok : ∀ x ∈ cs, x.good ∧ x.ar ≤ 6) :
    ((ds0 ++ [yP, yV]).map Con.nm).Nodup ∧ (∀ x ∈ ds0 ++ [yP, yV], x.fit ∧ x.ar ≤ 6) ∧ Tg cs (ds0 ++ [yP, yV]) R := by
  obtain ⟨n1, n2, n3⟩ := h.nms
  have ndd : ((ds0 ++ [yP, yV]).map Con.nm).Nodup := by
    rw [List.map_append, List.nodup_append, n1]
    refine ⟨nd, by decide +kernel, fun a ha b hb e => ?_⟩
    obtain ⟨c, hc, rfl⟩ := List.mem_map.mp ha
    obtain ⟨y1, y2⟩ := not_y (ok c hc).1
    rcases List.mem_cons.mp hb with rfl | hb
    · exact y1 e
    · rw [List.mem_singleton.mp hb] at e; exact y2 e
  refine ⟨ndd, fun x hx => ?_, ?_, conOf_mem ndd (x := yP) (by simp), conOf_mem ndd (x := yV) (by simp), nd, fun c hc p hp => ((ok c hc).1.pl.2.1 p hp)⟩
  · rcases List.mem_append.mp hx with hx | hx
    · obtain ⟨i, hi, rfl⟩ := List.getElem_of_mem hx
      have l1 := h.l1
      have l2 := h.l2
      have hi2 : i < cs.length := by omega
      obtain ⟨os, wr, o⟩ := h.one i cs[i] ds0[i] (R[i]'(by omega)) (List.getElem?_eq_getElem hi2) (List.getElem?_eq_getElem hi) (List.getElem?_eq_getElem (by omega))
      obtain ⟨gc, ga⟩ := ok cs[i] (List.getElem_mem hi2)
      have lo : os.length = cs[i].ar := by rw [o.hos.length_eq, List.length_range]
      obtain ⟨q1, q2⟩ := o.pl.ok lo gc.pl.1 fun p hp => (gc.pl.2.1 p hp).1
      exact ⟨⟨by rw [o.nm]; exact gc.wd, by rw [o.nm]; exact gc.bar, by rw [o.kd]; exact gc.kd, ⟨q1, by rw [o.ar]; exact q2, by rw [← o.pl.len, o.ar]; exact gc.pl.2.2⟩⟩, by rw [o.ar]; exact ga⟩
    · rcases List.mem_cons.mp hx with rfl | hx
      · exact ⟨yP_fit, by decide⟩
      · rw [List.mem_singleton.mp hx]; exact ⟨yV_fit, by decide⟩
  · intro c hc
    obtain ⟨x, r, os, wr, hx, hr, o⟩ := h.at_ hc
    refine ⟨x, r, os, wr, ?_, ?_, o⟩
    · rw [← o.nm]; exact conOf_mem ndd (List.mem_append_left _ hx)
    · rw [← o.rn]; exact rowOf_mem (by rw [n2]; exact nd) hr
end
theorem wrap_fill (kd : Str) (wr : Bool) (tab : Tab) (t : Tm) : (wrapT kd wr t).fill tab = wrapT kd wr (t.fill tab) := by
  cases wr with
  | true => show (Tm.node _ [t]).fill tab = Tm.node _ [t.fill tab]; rw [fill_node]; rfl
  | false => rfl
/-- a row with two words exchanged -/
theorem One.swap {c x : Con} {r : Rw} {os : List Nat} {wr : Bool} (o : One c x r os (os.map id) wr) {a b : Nat} (ha : a < c.ar) (hb : b < c.ar) (ne : a ≠ b) : One c x ⟨r.nm, r.ps, r.t.fill (swTab (r.ps.getD a "") (r.ps.getD b ""))⟩ os (os.map (swp a b)) wr := by
  refine ⟨o.nm, o.ar, o.kd, o.pl, o.hos, swp_perm ne ha hb o.hos, o.rn, o.wl, o.wn, o.ww, ?_⟩
  show r.t.fill _ = _
  rw [o.t, wrap_fill, fill_node, List.map_map, List.map_id, List.map_map]
  congr 2
  refine List.map_congr_left fun q hq => ?_
  have hq : q < c.ar := by simpa using o.hos.mem_iff.mp hq
  have gt : ∀ q, q < c.ar → r.ps[q]? = some (r.ps.getD q "") := fun q hq => by
    rw [List.getD_eq_getElem?_getD, List.getElem?_eq_getElem (by rw [o.wl]; exact hq)]; rfl
  have inj : ∀ q q', q < c.ar → q' < c.ar → r.ps.getD q "" = r.ps.getD q' "" → q = q' := fun q q' h1 h2 e => by
    have h3 := gt q h1
    rw [e, ← gt q' h2] at h3
    exact (List.getElem?_inj (by rw [o.wl]; exact h1) o.wn).mp h3
  show (Tm.var (r.ps.getD q "")).fill _ = Tm.var (r.ps.getD (swp a b q) "")
  rw [fill_var]
  unfold swTab
  rw [lookA_cons, lookA_cons]
  unfold swp
  have e0 : lookA ([] : List (Str × Tm)) (r.ps.getD q "") = none := rfl
  rw [e0]
  by_cases h1 : q = b
  · subst h1
    have h2 : ¬ q = a := Ne.symm ne
    simp [h2]
  · have n1 : ¬ r.ps.getD b "" = r.ps.getD q "" := fun z => h1 (inj _ _ hb hq z).symm
    by_cases h2 : q = a
    · subst h2
      rw [if_neg n1]
      simp
    · have n2 : ¬ r.ps.getD a "" = r.ps.getD q "" := fun z => h2 (inj _ _ ha hq z).symm
      rw [if_neg n1, if_neg n2, if_neg h2, if_neg h1]
      rfl
/-! what a translation is -/
theorem Tg.kids {cs ds : List Con} {R : List Rw} (g : Tg cs ds R) {c : Con} (hc : c ∈ cs) {ts : List Tm} (hl : ts.length = c.ar) {os : List Nat} (op : os.Perm (List.range c.ar)) (f : Tm → Nat) : ((os.map (kidAt (Tm.trans R) ts)).map f).sum = ((ts.map (Tm.trans R)).map f).sum ∧ ∀ k ∈ os.map (kidAt (Tm.trans R) ts), ∃ y ∈ ts, k = y.trans R := by
  have e : (List.range c.ar).map (kidAt (Tm.trans R) ts) = ts.map (Tm.trans R) := List.ext_getElem (by rw [List.length_map, List.length_map, List.length_range, hl]) fun i h1 h2 => by
    rw [List.length_map] at h2
    rw [List.getElem_map, List.getElem_map, List.getElem_range]
    unfold kidAt
    rw [List.getElem?_eq_getElem h2]; rfl
  refine ⟨?_, fun k hk => ?_⟩
  · rw [((op.map (kidAt (Tm.trans R) ts)).map f).sum_nat, e]
  · have := (op.map (kidAt (Tm.trans R) ts)).mem_iff.mp hk
    rw [e] at this
    obtain ⟨y, hy, rfl⟩ := List.mem_map.mp this
    exact ⟨y, hy, rfl⟩
theorem Tg.node {cs ds : List Con} {R : List Rw} (g : Tg cs ds R) {c : Con} (hc : c ∈ cs) {ts : List Tm} (hl : ts.length = c.ar) : ∃ (os : List Nat) (wr : Bool), os.Perm (List.range c.ar) ∧ (∃ x, conOf ds c.nm = some x ∧ x.ar = c.ar) ∧ (Tm.node c.nm ts).trans R = wrapT c.kd wr (.node c.nm (os.map (kidAt (Tm.trans R) ts))) := by
  obtain ⟨x, r, os, wr, h1, h2, o⟩ := g.all c hc
  refine ⟨os, wr, o.hos, ⟨x, h1, o.ar⟩, ?_⟩
  rw [trans_node h2, o.t, wrap_fill]
  congr 1
  rw [fill_node, List.map_map]
  congr 1
  refine List.map_congr_left fun q hq => ?_
  have hq : q < c.ar := by simpa using (o.hos.mem_iff.mp hq)
  have e1 : r.ps[q]? = some (r.ps.getD q "") := by
    rw [List.getD_eq_getElem?_getD, List.getElem?_eq_getElem (by rw [o.wl]; exact hq)]; rfl
  have e2 : (ts.map (Tm.trans R))[q]? = some (kidAt (Tm.trans R) ts q) := by
    unfold kidAt
    rw [List.getElem?_map, List.getElem?_eq_getElem (by omega)]; rfl
  show (Tm.var (r.ps.getD q "")).fill _ = _
  rw [fill_var, look_zip_at o.wn e1 e2]; rfl
theorem Tg.facts {cs ds : List Con} {R : List Rw} (g : Tg cs ds R) {t : Tm} (h : terOk cs t) : (t.trans R).size ≤ 2 * t.size ∧ (t.trans R).ht ≤ 2 * t.ht ∧ Al (prN ds) (t.trans R) := by
  have mem : ∀ {n : Str} {y : Con}, conOf ds n = some y → y ∈ ds ∧ y.nm = n := fun {n y} h => ⟨List.mem_of_find?_eq_some h, by have := List.find?_some h; exact of_decide_eq_true this⟩
  induction t using Tm.ind with
  | h t ih =>
    cases t with
    | node c ts =>
      obtain ⟨con, hc, rfl, hl⟩ := h.at_.2.1 c ts rfl
      obtain ⟨os, wr, op, ⟨x, hx, xa⟩, e⟩ := g.node hc hl.symm
      obtain ⟨k1, k2⟩ := g.kids hc hl.symm op Tm.size
      have hp := (Tm.node con.nm ts).ht_pos
      have ihk : ∀ y ∈ ts, (y.trans R).size ≤ 2 * y.size ∧ (y.trans R).ht ≤ 2 * y.ht ∧ Al (prN ds) (y.trans R) := fun y hy => ih y hy (h.kid (show y ∈ (Tm.node con.nm ts).kids from hy))
      have sum2 : ((ts.map (Tm.trans R)).map Tm.size).sum ≤ 2 * (ts.map Tm.size).sum := by
        clear e k1 k2 h hl hp ih
        induction ts with
        | nil => exact Nat.le_refl _
        | cons a l ihl =>
          have h1 := (ihk a List.mem_cons_self).1
          have h2 := ihl fun y hy => ihk y (List.mem_cons_of_mem _ hy)
          rw [List.map_cons, List.map_cons, List.sum_cons, List.map_cons, List.sum_cons]; omega
      have sX : (Tm.node con.nm (os.map (kidAt (Tm.trans R) ts))).size ≤ 2 * (Tm.node con.nm ts).size - 1 := by
        rw [Tm.size_eq, Tm.size_eq (.node con.nm ts)]
        show 1 + ((os.map (kidAt (Tm.trans R) ts)).map Tm.size).sum ≤ 2 * (1 + (ts.map Tm.size).sum) - 1
        rw [k1]; omega
      have hX : (Tm.node con.nm (os.map (kidAt (Tm.trans R) ts))).ht ≤ 2 * (Tm.node con.nm ts).ht - 1 := by
        have := Tm.ht_le (t := .node con.nm (os.map (kidAt (Tm.trans R) ts))) (n := 2 * (Tm.node con.nm ts).ht - 2) fun k hk => by
          obtain ⟨y, hy, rfl⟩ := k2 k hk
          have h1 := (ihk y hy).2.1
          have h2 := Tm.ht_kid (t := .node con.nm ts) hy
          omega
        omega
      have aX : Al (prN ds) (.node con.nm (os.map (kidAt (Tm.trans R) ts))) := .mk (fun c' ts' e' => by
        cases e'
        exact ⟨x, (mem hx).1, (mem hx).2, by rw [List.length_map, op.length_eq, List.length_range]; exact xa⟩) fun k hk => by
          obtain ⟨y, hy, rfl⟩ := k2 k hk
          exact (ihk y hy).2.2
      have sp := (Tm.node con.nm ts).size_pos
      rw [e]
      cases wr with
      | false => exact ⟨by show (Tm.node con.nm (os.map (kidAt (Tm.trans R) ts))).size ≤ _; omega, by show (Tm.node con.nm (os.map (kidAt (Tm.trans R) ts))).ht ≤ _; omega, aX⟩
      | true =>
        have hn : ∃ y ∈ ds, y.nm = (if con.kd = "value" then "yvalue" else "yplain" : Str) ∧ y.ar = 1 := by
          by_cases z : con.kd = "value"
          · exact ⟨yV, (mem g.yv).1, by rw [if_pos z]; rfl, rfl⟩
          · exact ⟨yP, (mem g.yp).1, by rw [if_neg z]; rfl, rfl⟩
        obtain ⟨y, h1, h2, h3⟩ := hn
        refine ⟨?_, ?_, .mk (show prN ds (.node (if con.kd = "value" then "yvalue" else "yplain") [_]) from fun c' ts' e' => by
          cases e'
          exact ⟨y, h1, h2, h3⟩) fun k hk => ?_⟩
        · show (Tm.node (if con.kd = "value" then "yvalue" else "yplain") [Tm.node con.nm (os.map (kidAt (Tm.trans R) ts))]).size ≤ _
          rw [Tm.size_eq]
          show 1 + ((Tm.node con.nm (os.map (kidAt (Tm.trans R) ts))).size + 0) ≤ _
          omega
        · have := Tm.ht_le (t := .node (if con.kd = "value" then "yvalue" else "yplain") [Tm.node con.nm (os.map (kidAt (Tm.trans R) ts))]) (n := 2 * (Tm.node con.nm ts).ht - 1) fun k hk => by rw [List.mem_singleton.mp hk]; exact hX
          show (Tm.node (if con.kd = "value" then "yvalue" else "yplain") [Tm.node con.nm (os.map (kidAt (Tm.trans R) ts))]).ht ≤ _
          omega
        · rw [List.mem_singleton.mp (show k ∈ [Tm.node con.nm (os.map (kidAt (Tm.trans R) ts))] from hk)]; exact aX
    | map es =>
      have ihk : ∀ e ∈ es, (e.2.trans R).size ≤ 2 * e.2.size ∧ (e.2.trans R).ht ≤ 2 * e.2.ht ∧ Al (prN ds) (e.2.trans R) := fun e he => by
        have hk : e.2 ∈ (Tm.map es).kids := List.mem_map.mpr ⟨e, he, rfl⟩
        exact ih e.2 hk (h.kid hk)
      have hp := (Tm.map es).ht_pos
      rw [trans_map]
      refine ⟨?_, ?_, .mk (fun c ts e => by cases e) fun k hk => ?_⟩
      · rw [Tm.size_eq, Tm.size_eq (.map es)]
        show 1 + (((es.map fun e => (e.1, e.2.trans R)).map Prod.snd).map Tm.size).sum ≤ 2 * (1 + ((es.map Prod.snd).map Tm.size).sum)
        clear ih h hp
        induction es with
        | nil => show 1 + 0 ≤ 2 * (1 + 0); omega
        | cons a l ihl =>
          have h1 := (ihk a List.mem_cons_self).1
          have h2 := ihl fun y hy => ihk y (List.mem_cons_of_mem _ hy)
          rw [List.map_cons, List.map_cons, List.map_cons, List.sum_cons, List.map_cons, List.map_cons, List.sum_cons]
          show 1 + ((a.2.trans R).size + _) ≤ _
          omega
      · have := Tm.ht_le (t := .map (es.map fun e => (e.1, e.2.trans R))) (n := 2 * (Tm.map es).ht - 1) fun k hk => by
          obtain ⟨e, he, rfl⟩ := List.mem_map.mp (show k ∈ (es.map fun e => (e.1, e.2.trans R)).map Prod.snd from hk)
          obtain ⟨e', he', rfl⟩ := List.mem_map.mp he
          have h1 := (ihk e' he').2.1
          have h2 := Tm.ht_kid (t := .map es) (List.mem_map.mpr ⟨e', he', rfl⟩ : e'.2 ∈ (Tm.map es).kids)
          show (e'.2.trans R).ht ≤ _
          omega
        omega
      · obtain ⟨e, he, rfl⟩ := List.mem_map.mp (show k ∈ (es.map fun e => (e.1, e.2.trans R)).map Prod.snd from hk)
        obtain ⟨e', he', rfl⟩ := List.mem_map.mp he
        exact (ihk e' he').2.2
    | form f ts => exact absurd rfl (h.at_.2.2 f ts)
    | var s => rw [trans_var]; exact ⟨by have := (Tm.var s).size_pos; omega, by have := (Tm.var s).ht_pos; omega, .mk (fun c ts e => by cases e) fun k hk => absurd hk List.not_mem_nil⟩
    | int n => rw [show (Tm.int n).trans R = .int n by rw [Tm.trans_eq]; rfl]; exact ⟨by have := (Tm.int n).size_pos; omega, by have := (Tm.int n).ht_pos; omega, .mk (fun c ts e => by cases e) fun k hk => absurd hk List.not_mem_nil⟩
    | name n => rw [show (Tm.name n).trans R = .name n by rw [Tm.trans_eq]; rfl]; exact ⟨by have := (Tm.name n).size_pos; omega, by have := (Tm.name n).ht_pos; omega, .mk (fun c ts e => by cases e) fun k hk => absurd hk List.not_mem_nil⟩
    | addr n => rw [show (Tm.addr n).trans R = .addr n by rw [Tm.trans_eq]; rfl]; exact ⟨by have := (Tm.addr n).size_pos; omega, by have := (Tm.addr n).ht_pos; omega, .mk (fun c ts e => by cases e) fun k hk => absurd hk List.not_mem_nil⟩
theorem stand_al {p : Tm → Prop} {cs : List Con} : ∀ (n : Nat) {t : Tm}, Al p t → Al p (standN cs n t) ∧ (standN cs n t).ht ≤ t.ht
  | 0, t, h => ⟨h, Nat.le_refl _⟩
  | n + 1, t, h => by
    show Al p (match inn cs t with | none => t | some u => standN cs n u) ∧ (match inn cs t with | none => t | some u => standN cs n u).ht ≤ t.ht
    cases e : inn cs t with
    | none => exact ⟨h, Nat.le_refl _⟩
    | some u =>
      obtain ⟨hk, _⟩ := inn_kid e
      have := Tm.ht_kid hk
      obtain ⟨i1, i2⟩ := stand_al n (h.kid hk)
      exact ⟨i1, by show (standN cs n u).ht ≤ _; omega⟩
end PK
namespace PK
open PySem L2
/-! the law -/
def spLaw (K : PySem.W.Frag) : Sp := fun vs H Q _ => ∃ (a : Addr) (ns : List Int), vs = [.ref a] ∧ SqL K H a (ns.map V.int) ∧ ns.length ≤ 63 ∧ ∀ H', Q (.bl true) H'
theorem slim_lst' {ds : List PyData} (h1 : ds.length ≤ 1000) (h : ∀ d ∈ ds, slim d = true) : slim (.list ds) = true := by
  unfold slim
  rw [decide_eq_true h1, slim_all h]; rfl
theorem mk_lang {K : PySem.W.Frag} {C : Addr} {H : Hp} {Q : Hp → Prop} {E : XK} {cv : List V} {cs : List Con} {ct et o dx : Addr} (dcs : DtAll K H cv (cs.map Con.d)) (hl : 1 ≤ cs.length) (l7 : cs.length ≤ 9) (nd : (cs.map Con.nm).Nodup) (good : ∀ x ∈ cs, x.fit ∧ x.ar ≤ 6)
    (hct : H ct = none) (het : (upd H ct (.tup cv)) et = none) (ho : (upd (upd H ct (.tup cv)) et (.tup [])) o = none) (hdx : (upd (upd H ct (.tup cv)) et (.tup [])) dx = none) (ne : dx ≠ o)
    (q : ∀ (H' : Hp), Same H H' → Lng K C H' o cs → Q H') :
    spLInit K C [.ref o, .ref ct, .ref et] (upd (upd (upd (upd H ct (.tup cv)) et (.tup [])) dx (.own o)) o (.ins C dx [])) (fun v H2 => v = .non ∧ Q H2) E := by
  have s1 := (same_new (o := .tup cv) hct).trans (same_new (o := .tup []) het)
  have h1 : (upd (upd H ct (.tup cv)) et (.tup [])) ct = some (.tup cv) := same_new het _ _ upd_same
  have d1 := dcs.same s1
  have h2 : (upd (upd H ct (.tup cv)) et (.tup [])) et = some (.tup []) := upd_same
  generalize upd (upd H ct (HO.tup cv)) et (HO.tup []) = H1 at *
  have s2 : Same H1 (upd H1 dx (.own o)) := same_new hdx
  have ho2 : (upd H1 dx (.own o)) o = none := by rw [upd_ne ne.symm]; exact ho
  have s3 := s2.trans (same_new (o := .ins C dx []) ho2)
  refine ⟨o, dx, ct, et, cv, cs, rfl, upd_same, .inl (.inl (s3 _ _ h1)), d1.same s3, .inl (.inl (s3 _ _ h2)), hl, l7, nd, good, fun H' kp lg => ⟨rfl, q H' (fun b u hb => kp b u (fun z => ?_) (s3 _ _ (s1 _ _ hb))) lg⟩⟩
  subst z
  have := s1 _ _ hb
  rw [ho] at this
  cases this
theorem Dt.lstP {K : PySem.W.Frag} {H : Hp} {l : Addr} {xs : List V} {ds : List PyData} (h : H l = some (.lst xs)) (d : DtAll K H xs ds) : Dp K H (.ref l) (.list ds) := .lst (SqL.of h) (DtAll.dp _ _ d)
theorem rows_data {R : List Rw} (l7 : R.length ≤ 7) (h : ∀ r ∈ R, rwOk r) : (PyData.tuple (R.map Rw.d)).depth < 98 ∧ slim (.tuple (R.map Rw.d)) = true := by
  have one : ∀ r ∈ R, r.d.depth ≤ 38 ∧ slim r.d = true := fun r hr => by
    have rok := h r hr
    have h4 := tm_depth (tpl_noF rok.1)
    have h5 : PyData.depthAll (r.ps.map PyData.str) ≤ 0 := depth_all fun d hd => by
      obtain ⟨s, _, rfl⟩ := List.mem_map.mp hd
      exact Nat.le_refl _
    refine ⟨?_, ?_⟩
    · unfold Rw.d
      show max 0 (max (PyData.depthAll (r.ps.map PyData.str) + 1) (max r.t.d.depth 0)) + 1 ≤ 38
      have := rok.2.1
      omega
    · unfold Rw.d
      refine slim_tup (by show 3 ≤ 1000; decide) fun d hd => ?_
      rcases List.mem_cons.mp hd with rfl | hd
      · exact slim_str _
      rcases List.mem_cons.mp hd with rfl | hd
      · exact slim_tup (by rw [List.length_map]; have := rok.2.2.2; omega) fun d hd => by
          obtain ⟨s, _, rfl⟩ := List.mem_map.mp hd
          exact slim_str _
      rw [List.mem_singleton.mp hd]
      exact tm_slim (tpl_noF rok.1)
  refine ⟨?_, slim_tup (by rw [List.length_map]; omega) fun d hd => ?_⟩
  · have := depth_all (ds := R.map Rw.d) (n := 38) fun d hd => by
      obtain ⟨r, hr, rfl⟩ := List.mem_map.mp hd
      exact (one r hr).1
    show PyData.depthAll (R.map Rw.d) + 1 < 98
    omega
  · obtain ⟨r, hr, rfl⟩ := List.mem_map.mp hd
    exact (one r hr).2
theorem rowsV_of {K : PySem.W.Frag} {H : Hp} {vs : List V} {R : List Rw} (h : DtAll K H vs (R.map Rw.d)) : RowsV K H vs R := ⟨by rw [h.lenD, List.length_map], fun i v r h1 h2 => by
  obtain ⟨d, gd, dx⟩ := h.getX h1
  rw [List.getElem?_map, h2] at gd
  cases gd
  unfold Rw.d at dx
  obtain ⟨a, x, y, z, rfl, hs, g1, g2, g3⟩ := Dt.t3 dx
  obtain rfl := g1.s
  obtain ⟨b, ys, rfl, hb, hys⟩ := Dt.tn g2
  obtain rfl := hys.strsE
  exact ⟨a, b, z, rfl, hs, .inr hb, g3⟩⟩
section
variable {P : Program} {w : World} {K : PySem.W.Frag} {mg : Str → Option Value} {base : Heap} {aF aR C CL : Addr}
abbrev s_law : Stmt := topS 129
theorem sc_law : FnScope ["script", "pool", "constructors", "made", "source", "target", "rows", "exchanged", "k", "term", "told", "wanted"] ["script"] (defScope s_law) := ⟨rfl, rfl, rfl, by decide +kernel, rfl, by decide +kernel, by decide +kernel⟩
-- slots: 0:script 1:pool 2:constructors 3:made 4:source 5:target 6:rows 7:exchanged 8:k 9:term 10:told 11:wanted
theorem ok_law {f : Addr} {fd : FuncData} (F : Fun K "law" "law" s_law f fd) (T : TxtP K mg aF aR) (X : LTx K C) (ML : CalC P w K mg base 5 "Language" C (spLInit K C)) (C_law_pool : C8.Cal P w K mg base 1 "_law_pool" (spPool K) []) (C_law_constructors : C8.Cal P w K mg base 4 "_law_constructors" (spCons K) [])
    (C_law_target : C8.Cal P w K mg base 4 "_law_target" (spTgt K) []) (C_check_pass : C8.Cal P w K mg base 7 "check_pass" (spCheckP K C) []) (C_faults : C8.Cal P w K mg base 8 "faults" (spFlt K C) []) (C_law_same : C8.Cal P w K mg base 99 "_law_same" (spSame K 98) []) (C_law_exchanged : C8.Cal P w K mg base 13 "_law_exchanged" (spExc K) [])
    (C_law_program : C8.Cal P w K mg base 10 "_law_program" (spPrg K) []) (C_law_cut : C8.Cal P w K mg base 101 "_law_cut" (spCut K) []) (C_translate : CalR P w K mg base 3 "translate" (spTrans K CL)) (C_law_translated : C8.Cal P w K mg base 23 "_law_translated" (spTl K 10) []) (C_law_is_value : C8.Cal P w K mg base 13 "_law_is_value" (spIsV K 12) [])
    (C_law_standing : C8.Cal P w K mg base 15 "_law_standing" (spStd K 12) []) (C_law_comes_to : C8.Cal P w K mg base 100 "_law_comes_to" (spCms K 12) []) : FnOk P w K mg base CX0 110 f fd ["script"] (spLaw K) := by
  refine F.ok sc_law (fun vs H Q E h => ?_) (fun cdv A outer s H vs Q E hr h => ?_)
  · obtain ⟨_, _, rfl, _⟩ := h
    rfl
  obtain ⟨sa, ns, rfl, hS, hlen, q⟩ := h
  refine ⟨_, (pss_cons (ps_set (i := 1) sc_law.nd rfl (Or.inl rfl) (C8.pe_c C_law_pool hr (by decide) rfl (pa_cons (pv 0) pa_nil)))
    (pss_cons (ps_set (i := 2) sc_law.nd rfl (Or.inl rfl) (C8.pe_c C_law_constructors hr (by decide) rfl (pa_cons (pv 1) pa_nil)))
    (pss_cons (ps_set (i := 3) sc_law.nd rfl (Or.inl rfl) (C8.pe_c C_law_target hr (by decide) rfl (pa_cons (pv 1) (pa_cons (pv 2) pa_nil))))
    (pss_cons (ps_set (i := 4) sc_law.nd rfl (Or.inl rfl) (pe_mk ML hr (by decide) rfl (pa_cons (pe_callTy call_tuple_of (by rfl) T.z_tuple (by decide +kernel) (pa_cons (pv 2) pa_nil)) (pa_cons (pe_tup pa_nil) pa_nil))))
    (pss_cons (ps_set (i := 5) sc_law.nd rfl (Or.inl rfl) (pe_mk ML hr (by decide) rfl (pa_cons (pe_callTy call_tuple_of (by rfl) T.z_tuple (by decide +kernel) (pa_cons (pe_ix ix_tup (pv 3) pe_int (fun _ _ => rfl)) pa_nil)) (pa_cons (pe_tup pa_nil) pa_nil))))
    (pss_cons (ps_set (i := 6) sc_law.nd rfl (Or.inl rfl) (pe_ix ix_tup (pv 3) pe_int (fun _ _ => rfl)))
    (pss_cons (ps_if (PW.pt (pw_or (pt_not (pt_val (C8.pe_c C_law_same hr (by decide) rfl (pa_cons (C8.pe_c C_check_pass hr (by decide) rfl (pa_cons (pv 4) (pa_cons (pv 5) (pa_cons (pv 6) pa_nil)))) (pa_cons (pv 6) pa_nil))))) (pw_or1 (pt_not (pt_val (C8.pe_c C_law_same hr (by decide) rfl (pa_cons (C8.pe_c C_faults hr (by decide) rfl (pa_cons (pv 4) (pa_cons (pv 5) (pa_cons (pv 6) pa_nil)))) (pa_cons (pe_lst pa_nil) pa_nil)))))))) (pss_one (ps_ret pe_bl)) pss_nil)
    (C8.pss_cut (ps_set (i := 7) sc_law.nd rfl (Or.inl rfl) (C8.pe_c C_law_exchanged hr (by decide) rfl (pa_cons (pv 2) (pa_cons (pv 6) pa_nil))))
    (C8.pss_cut (ps_if (pt_cmpR op_notN (pv 7) pe_non (nomark _)) (pss_one (ps_if (pt_not (pt_val (C8.pe_c C_law_same hr (by decide) rfl (pa_cons (C8.pe_c C_faults hr (by decide) rfl (pa_cons (pv 4) (pa_cons (pv 5) (pa_cons (pe_ix ix_tup (pv 7) pe_int (fun _ _ => rfl)) pa_nil)))) (pa_cons (pe_lst (pa_cons (pe_ix ix_tup (pv 7) pe_int (fun _ _ => rfl)) pa_nil)) pa_nil))))) (pss_one (ps_ret pe_bl)) pss_nil)) pss_nil)
    (pss_cons (ps_for PassesOwn.never rfl (pi_range1 (by rfl) T.z_range (pa_cons pe_int pa_nil)) (pg_name (i := 8) sc_law.nd rfl (Or.inl rfl)) (pss_cons (ps_set (i := 9) sc_law.nd rfl (Or.inl rfl) (C8.pe_c C_law_cut hr (by decide) rfl (pa_cons (C8.pe_c C_law_program hr (by decide) rfl (pa_cons (pv 1) (pa_cons (pv 2) (pa_cons pe_int pa_nil)))) (pa_cons pe_int pa_nil))))
    (pss_cons (ps_set (i := 10) sc_law.nd rfl (Or.inl rfl) (pe_crS C_translate takes0 hr (by decide) rfl (pa_cons (pv 6) (pa_cons (pv 9) pa_nil))))
    (pss_cons (ps_if (pt_not (pt_val (C8.pe_c C_law_same hr (by decide) rfl (pa_cons (pv 10) (pa_cons (C8.pe_c C_law_translated hr (by decide) rfl (pa_cons (pv 6) (pa_cons (pv 9) pa_nil))) pa_nil))))) (pss_one (ps_ret pe_bl)) pss_nil)
    (pss_cons (ps_if (pt_cmpR op_ne (C8.pe_c C_law_is_value hr (by decide) rfl (pa_cons (pv 2) (pa_cons (pv 9) pa_nil))) (C8.pe_c C_law_is_value hr (by decide) rfl (pa_cons (pe_ix ix_tup (pv 3) pe_int (fun _ _ => rfl)) (pa_cons (pv 10) pa_nil))) (nomark _)) (pss_one (ps_ret pe_bl)) pss_nil)
    (pss_one (ps_if (pt_not (pt_val (C8.pe_c C_law_is_value hr (by decide) rfl (pa_cons (pv 2) (pa_cons (pv 9) pa_nil))))) (pss_cons (ps_set (i := 11) sc_law.nd rfl (Or.inl rfl) (C8.pe_c C_law_translated hr (by decide) rfl (pa_cons (pv 6) (pa_cons (C8.pe_c C_law_standing hr (by decide) rfl (pa_cons (pv 2) (pa_cons (pv 9) pa_nil))) pa_nil))))
    (pss_one (ps_if (pt_not (pt_val (C8.pe_c C_law_comes_to hr (by decide) rfl (pa_cons (pe_ix ix_tup (pv 3) pe_int (fun _ _ => rfl)) (pa_cons (pv 10) (pa_cons (pv 11) pa_nil)))))) (pss_one (ps_ret pe_bl)) pss_nil))) pss_nil)))))))
    (pss_one (ps_ret pe_bl)))))))))))), ?_⟩
  refine ⟨_, rfl, sa, ns, rfl, hS, hlen, fun H0 l c s0 hl0 P0 => ?_⟩
  refine ⟨_, rfl, l, c, rfl, P0, fun H1 pc cv cs x1 hpc0 hpc1 dcs nd ac w2 lc gc => ?_⟩
  have nc : pc ≠ l := (P0.ne hpc0).1
  have okg : ∀ x ∈ cs, x.good ∧ x.ar ≤ 6 := fun x hx => ⟨gc x hx, ac x hx⟩
  have okc : ∀ x ∈ cs, x.fit ∧ x.ar ≤ 6 := fun x hx => ⟨(gc x hx).fit, ac x hx⟩
  have hl1 : 1 ≤ cs.length := by obtain ⟨x, hx, _⟩ := w2; exact List.length_pos_of_mem hx
  refine ⟨_, rfl, _, rfl, l, c, pc, cv, cs, rfl, x1.pool, nc, hpc1, dcs, okg, lc, fun H2 am pt rt tv ds0 R x2 ham hpt0 hpt dts dR tok => ?_⟩
  obtain ⟨nd2, okt, g⟩ := tok.all nd okg
  obtain ⟨n1, n2, n3⟩ := tok.nms
  have ltS : (ds0 ++ [yP, yV]).length ≤ 9 := by rw [List.length_append, tok.l1]; show _ + 2 ≤ 9; omega
  have ltS1 : 1 ≤ (ds0 ++ [yP, yV]).length := by rw [List.length_append]; show 1 ≤ _ + 2; omega
  have nt : pt ≠ l := (x1.pool.ne hpt0).1
  have hpc2 := x2.keep _ _ nc hpc1
  have dcs2 := dcs.ext x1.pool x2
  have rall : ∀ (i : Nat) (c : Con) (r : Rw), cs[i]? = some c → R[i]? = some r → ∃ x os wr, conOf (ds0 ++ [yP, yV]) c.nm = some x ∧ One c x r os (os.map id) wr ∧ c ∈ cs := fun i c r h1 h2 => by
    obtain ⟨hi, _⟩ := List.getElem?_eq_some_iff.mp h1
    have l1 := tok.l1
    have h3 : ds0[i]? = some (ds0[i]'(by omega)) := List.getElem?_eq_getElem (by omega)
    obtain ⟨os, wr, o⟩ := tok.one i c _ r h1 h3 h2
    exact ⟨_, os, wr, by rw [← o.nm]; exact conOf_mem nd2 (List.mem_append_left _ (List.getElem_mem _)), by rw [List.map_id]; exact o, List.mem_of_getElem? h1⟩
  have rok : ∀ r ∈ R, rwOk r ∧ rwM (ds0 ++ [yP, yV]) r := fun r hr' => by
    obtain ⟨i, hi, rfl⟩ := List.getElem_of_mem hr'
    have l2 := tok.l2
    obtain ⟨x, os, wr, hx, o, hc⟩ := rall i (cs[i]'(by omega)) R[i] (List.getElem?_eq_getElem (by omega)) (List.getElem?_eq_getElem hi)
    exact o.rows hx g.yp g.yv (ac _ hc)
  have noflt : ∀ (i : Nat) (c : Con) (r : Rw), cs[i]? = some c → R[i]? = some r → fltD (ds0 ++ [yP, yV]) c r = [] := fun i c r h1 h2 => by
    obtain ⟨x, os, wr, hx, o, hc⟩ := rall i c r h1 h2
    exact flt_none o hx g.yp g.yv (gc c hc).pl
  generalize ds0 ++ [yP, yV] = ts at *
  refine ⟨_, rfl, pc, cv, rfl, .inl ⟨SqL.of hpc2, fun ct hct => ⟨small (by show 0 ≤ _; decide), fun et het => fun so dx ho hdx ne => mk_lang dcs2 hl1 (by omega) nd okc hct het ho hdx ne fun H3 s3 lg3 => ?_⟩⟩⟩
  have hpt3 := s3 _ _ hpt
  have dts3 := dts.same s3
  refine vTx rfl (Same.seqT s3 ham) rfl ⟨pt, tv, rfl, .inl ⟨SqL.of hpt3, fun ct2 hct2 => ⟨small (by show 0 ≤ _; decide), fun et2 het2 => fun to dx2 ho2 hdx2 ne2 => mk_lang dts3 ltS1 ltS nd2 okt hct2 het2 ho2 hdx2 ne2 fun H4 s4 lg4 => ?_⟩⟩⟩
  have s34 := s3.trans s4
  have P4 := x2.pool.same s34
  have hpc4 := s34 _ _ hpc2
  have dcs4 := dcs2.same s34
  have hpt4 := s4 _ _ hpt3
  have dts4 := dts3.same s4
  have lgs4 := lg3.same s4
  have ham4 := Same.seqT s34 ham
  have dR4 := dR.same s34
  refine vTx rfl ham4 rfl ?_
  obtain ⟨_, rv, e2, hrt, drv⟩ := Dt.tn dR4
  cases e2
  have lR : R.length = cs.length := tok.l2
  have G : RGs cs ts R := ⟨lR, fun i cn r h1 h2 => by
    have h3 : (R.map fun r => (r.nm, r.ps.length))[i]? = (cs.map fun x => (x.nm, x.ar))[i]? := by rw [n3]
    rw [List.getElem?_map, List.getElem?_map, h1, h2] at h3
    have h3 := Option.some.inj h3
    exact RG.of nd2 (rok r (List.mem_of_getElem? h2)).1 (rok r (List.mem_of_getElem? h2)).2 (congrArg Prod.fst h3) (congrArg Prod.snd h3) (ac cn (List.mem_of_getElem? h1))⟩
  obtain ⟨b1, b2⟩ := rows_data (by omega) fun r hr' => (rok r hr').1
  refine ⟨_, rfl, _, rfl, _, rfl, so, to, rt, rv, cs, ts, R, rfl, lgs4, lg4, .inr hrt, rowsV_of drv, G.small, by omega, by omega, by omega, nd2, G.chk, fun H5 v5 s5 dv5 => ?_⟩
  refine ⟨_, rfl, v5, .ref rt, _, _, rfl, Dt.dp _ _ dv5, Dt.dp _ _ (dR4.same s5), b1, b2, fun b H6 s6 eb => ⟨_, rfl, ?_⟩⟩
  obtain rfl : b = true := eb.mpr rfl
  have s46 := s5.trans s6
  refine iteF ⟨_, rfl, _, rfl, _, rfl, so, to, rt, cs, ts, R, rfl, lgs4.same s46, lg4.same s46, nd2, okt, okc, lc, dR4.same s46, n3, fun r h => (rok r h).1, fun r h => (rok r h).2, fun H7 la xa s7 hla0 hla dxa => ⟨Nat.zero_le _, fun le hle => ?_⟩⟩
  rw [allD_none noflt] at dxa
  cases dxa
  have s8 := same_new (o := .lst []) hle
  refine ⟨.ref la, .ref le, .list [], .list [], rfl, .lst (SqL.of (s8 _ _ hla)) .nil, .lst (SqL.of upd_same) .nil, by show 0 + 1 < 98; decide, by unfold slim slimAll; rfl, fun b H9 s9 eb => ⟨_, rfl, ?_⟩⟩
  obtain rfl : b = true := eb.mpr rfl
  have s49 := ((s46.trans s7).trans s8).trans s9
  refine iteF ?_
  -- the exchanged rows
  refine ⟨fun σ H' => ∃ v, σ = [some (.ref sa), some (.ref l), some (.ref pc), some (.ref am), some (.ref so), some (.ref to), some (.ref rt), some v, none, none, none, none] ∧ Same H4 H' ∧ (v = .non ∨ ∃ (k : Nat) (c : Con) (r : Rw) (p0 p1 : Int) (l : List Int), cs[k]? = some c ∧ R[k]? = some r ∧ c.pl = p0 :: p1 :: l ∧ Dt K H' v (.tuple [.tuple ((R.set k ⟨r.nm, r.ps, r.t.fill (swTab (r.ps.getD p0.toNat "") (r.ps.getD p1.toNat ""))⟩).map Rw.d), plD r.nm p0])), ?_, ?_⟩
  · refine ⟨_, rfl, _, rfl, pc, rt, cv, cs, R, rfl, s49 _ _ hpc4, dcs4.same s49, okg, lc, lR, dR4.same s49, fun r h => (rok r h).1, fun i c r h1 h2 => ?_, fun H10 s10 => ⟨.non, rfl, s49.trans s10, .inl rfl⟩, fun H10 v k c r p0 p1 l s10 h1 h2 h3 dv => ⟨v, rfl, s49.trans s10, .inr ⟨k, c, r, p0, p1, l, h1, h2, h3, dv⟩⟩⟩
    obtain ⟨x, os, wr, hx, o, hc⟩ := rall i c r h1 h2
    exact o.wl
  rintro σ H10 ⟨v, rfl, s10, ev⟩
  refine ⟨fun σ H' => ∃ v, σ = [some (.ref sa), some (.ref l), some (.ref pc), some (.ref am), some (.ref so), some (.ref to), some (.ref rt), some v, none, none, none, none] ∧ Same H4 H', ?_, ?_⟩
  · rcases ev with rfl | ⟨k, cn, r, p0, p1, lp, e0, e1, epl, dv⟩
    · exact ⟨_, rfl, rfl, _, rfl, iteF ⟨_, rfl, s10⟩⟩
    · obtain ⟨a, x, y, rfl, hs, g1, g2⟩ := Dt.t2 dv
      obtain ⟨rt2, rv2, rfl, hrt2, drv2⟩ := Dt.tn g1
      obtain ⟨x0, os, wr, hx0, o, hc⟩ := rall k cn r e0 e1
      have gl := (gc cn hc).pl
      have m0 := gl.2.1 p0 (by rw [epl]; exact List.mem_cons_self)
      have m1 := gl.2.1 p1 (by rw [epl]; exact List.mem_cons_of_mem _ List.mem_cons_self)
      have ne : p0.toNat ≠ p1.toNat := fun z => by
        have nd := gl.1
        rw [epl, List.nodup_cons] at nd
        exact nd.1 (by rw [show p0 = p1 by omega]; exact List.mem_cons_self)
      have osw := o.swap (a := p0.toNat) (b := p1.toNat) (by omega) (by omega) ne
      have rw2 := osw.rows hx0 g.yp g.yv (ac _ hc)
      have flt := flt_swap epl osw hx0 g.yp g.yv gl
      have hk : k < R.length := (List.getElem?_eq_some_iff.mp e1).1
      have all2 : allD ts cs (R.set k ⟨r.nm, r.ps, r.t.fill (swTab (r.ps.getD p0.toNat "") (r.ps.getD p1.toNat ""))⟩) = [plD r.nm p0] := allD_set noflt e0 hk (by rw [flt, o.rn])
      have rok2 : ∀ r' ∈ R.set k ⟨r.nm, r.ps, r.t.fill (swTab (r.ps.getD p0.toNat "") (r.ps.getD p1.toNat ""))⟩, rwOk r' ∧ rwM ts r' := fun r' h => by
        rcases List.mem_or_eq_of_mem_set h with h | h
        · exact rok r' h
        · rw [h]; exact rw2
      have n32 : (R.set k ⟨r.nm, r.ps, r.t.fill (swTab (r.ps.getD p0.toNat "") (r.ps.getD p1.toNat ""))⟩).map (fun r => (r.nm, r.ps.length)) = cs.map (fun x => (x.nm, x.ar)) := by
        rw [List.map_set, ← n3]
        have : (R.map fun r => (r.nm, r.ps.length))[k]? = some (r.nm, r.ps.length) := by rw [List.getElem?_map, e1]; rfl
        obtain ⟨h1, h2⟩ := List.getElem?_eq_some_iff.mp this
        refine List.ext_getElem (by rw [List.length_set]) fun j j1 j2 => ?_
        rw [List.getElem_set]
        by_cases z : k = j
        · subst z; rw [if_pos rfl, h2]
        · rw [if_neg z]
      refine ⟨_, rfl, rfl, _, rfl, iteT ?_⟩
      refine ⟨_, rfl, _, rfl, vTx rfl hs rfl ⟨so, to, rt2, cs, ts, _, rfl, lgs4.same s10, lg4.same s10, nd2, okt, okc, lc, .tup hrt2 drv2, n32, fun r' h => (rok2 r' h).1, fun r' h => (rok2 r' h).2, fun H11 la xa s11 hla0 hla dxa => ?_⟩⟩
      rw [all2] at dxa
      refine vTx rfl (Same.seqT s11 hs) rfl ⟨small (by show 1 ≤ _; decide), fun le hle => ?_⟩
      have s12 := same_new (o := .lst [y]) hle
      refine ⟨.ref la, .ref le, .list [plD r.nm p0], .list [plD r.nm p0], rfl, Dt.lstP (s12 _ _ hla) (dxa.same s12), Dt.lstP upd_same (.cons ((g2.same s11).same s12) .nil), by show max (max 0 (max 0 (max 0 0)) + 1) 0 + 1 < 98; decide, slim_lst' (by show 1 ≤ 1000; decide) fun d hd => ?_, fun b H13 s13 eb => ⟨_, rfl, ?_⟩⟩
      · rw [List.mem_singleton.mp hd]
        refine slim_tup (by show 3 ≤ 1000; decide) fun d hd => ?_
        rcases List.mem_cons.mp hd with rfl | hd
        · exact slim_str _
        rcases List.mem_cons.mp hd with rfl | hd
        · exact slim_str _
        rw [List.mem_singleton.mp hd]
        exact slim_int _
      · obtain rfl : b = true := eb.mpr rfl
        exact iteF ⟨_, rfl, ((s10.trans s11).trans s12).trans s13⟩
  rintro σ H14 ⟨v14, rfl, s14⟩
  -- programs
  have P14 := P4.same s14
  have O := rows_okR n3 nd lc fun r h => (rok r h).1
  have rwk : ∀ r ∈ R, rwOk r := fun r h => (rok r h).1
  refine ⟨3, rfl, by omega, by omega, for_range (lo := 0) (n := (3 : Int).toNat) (fun i σ H' => ∃ (o8 o9 o10 o11 : Option V), σ = [some (.ref sa), some (.ref l), some (.ref pc), some (.ref am), some (.ref so), some (.ref to), some (.ref rt), some v14, o8, o9, o10, o11] ∧ Ext l c H14 H') ?_ ?_ ?_⟩
  · exact ⟨_, _, _, _, rfl, Ext.refl P14⟩
  · rintro i σ H15 hi ⟨o8, o9, o10, o11, rfl, x15⟩
    have P15 := x15.pool
    have hpc15 := x15.keep _ _ nc (s14 _ _ hpc4)
    have dcs15 := (dcs4.same s14).ext P14 x15
    have hpt15 := x15.keep _ _ nt (s14 _ _ hpt4)
    have dts15 := (dts4.same s14).ext P14 x15
    have dR15 := (dR4.same s14).ext P14 x15
    have ham15 := x15.seqT P14 (Same.seqT s14 ham4)
    refine ⟨_, rfl, _, rfl, l, c, pc, cv, cs, rfl, P15, nc, hpc15, dcs15, ac, hl1, lc, fun H16 v16 t0 x16 d16 to0 nh0 => ?_⟩
    have h5 := t0.ht_nh
    refine ⟨v16, 200, t0, rfl, d16, ter_noF to0, by omega, fun H17 v17 t s17 d17 et => ?_⟩
    have tk : terOk cs t ∧ t.ht ≤ 5 ∧ t.size ≤ 200 := by
      rcases et with ⟨rfl, hz⟩ | rfl
      · exact ⟨to0, by omega, by omega⟩
      · refine ⟨(ter_leaf (t := .int 1) rfl (d := 0)).1, by have := Tm.ht_le (t := .int 1) (n := 0) (fun k hk => absurd hk List.not_mem_nil); omega, by rw [Tm.size_eq]; show 1 + 0 ≤ 200; decide⟩
    clear et
    obtain ⟨tok1, tht, tsz⟩ := tk
    have x17 := x15.trans (x16.same s17)
    have P17 := x17.pool
    have dR17 := (dR4.same s14).ext P14 x17
    obtain ⟨f1, f2, f3⟩ := g.facts tok1
    have oT := ter_okT n3 tok1
    have nf := ter_noF tok1
    have nfT := trans_noF O rwk oT nf
    have pN : Al (prN cs) t := Al.imp (fun t h => h.2.1) tok1
    refine ⟨_, rfl, _, rfl, .ref rt, v17, R, t, rfl, dR17, d17, O, oT, by omega, fun H18 v18 s18 hsz d18 => ?_, fun H18 s18 hbig => by omega⟩
    -- as translated
    refine ⟨_, rfl, _, rfl, _, rfl, .ref rt, v17, R, t, rfl, dR17.same s18, d17.same s18, O, rwk, oT, nf, by omega, fun H19 v19 s19 d19 => ?_⟩
    have dpt := tm_depth nfT
    refine ⟨v18, v19, _, _, rfl, Dt.dp _ _ (d18.same s19), Dt.dp _ _ d19, by omega, tm_slim nfT, fun b H20 s20 eb => ⟨_, rfl, ?_⟩⟩
    obtain rfl : b = true := eb.mpr rfl
    have s1820 := s19.trans s20
    have s1720 := s18.trans s1820
    have x20 := x17.same s1720
    have lcC : Lc K H20 pc cv cs := ⟨x20.keep _ _ nc (s14 _ _ hpc4), (dcs4.same s14).ext P14 x20, nd, okc⟩
    have lcT : Lc K H20 pt tv ts := ⟨x20.keep _ _ nt (s14 _ _ hpt4), (dts4.same s14).ext P14 x20, nd2, okt⟩
    have d17' := d17.same s1720
    have d18' := d18.same s1820
    have ham20 := x20.seqT P14 (Same.seqT s14 ham4)
    -- values
    refine iteF ⟨_, rfl, _, rfl, pc, cv, cs, v17, t, rfl, lcC, d17', pN, nf, by omega, fun H21 s21 => vTx rfl (Same.seqT s21 ham20) rfl ⟨_, rfl, pt, tv, ts, v18, _, rfl, lcT.same s21, d18'.same s21, f3, nfT, by omega, fun H22 s22 => ⟨rfl, _, rfl, ?_⟩⟩⟩
    rw [g.vl pN, decide_eq_true rfl]
    have s2022 := s21.trans s22
    have x22 := x20.same s2022
    refine iteF ⟨_, rfl, _, rfl, pc, cv, cs, v17, t, rfl, lcC.same s2022, d17'.same s2022, pN, nf, by omega, fun H23 s23 => ⟨_, rfl, ?_⟩⟩
    have s2023 := s2022.trans s23
    cases ev : vl cs t with
    | true => exact iteF ⟨_, _, _, _, rfl, x20.same s2023⟩
    | false =>
      refine iteT ?_
      -- what it comes to
      obtain ⟨st1, st2⟩ := stand_al (cs := cs) 40 tok1
      have stN := ter_noF st1
      have stT := ter_okT n3 st1
      have fs := g.facts st1
      refine ⟨_, rfl, _, rfl, _, rfl, pc, cv, cs, v17, t, rfl, lcC.same s2023, d17'.same s2023, pN, nf, by omega, ev, fun H24 v24 s24 d24 => ?_⟩
      have s2024 := s2023.trans s24
      have dR24 := (dR4.same s14).ext P14 (x20.same s2024)
      refine ⟨.ref rt, v24, R, _, rfl, dR24, d24, O, rwk, stT, stN, by omega, fun H25 v25 s25 d25 => ?_⟩
      have s2025 := s2024.trans s25
      obtain ⟨m, hm, pa⟩ := g.path 40 pN ev
      refine vTx rfl (Same.seqT s2025 ham20) rfl ⟨_, rfl, _, rfl, pt, tv, ts, v18, v25, _, _, m, rfl, lcT.same s2025, d18'.same s2025, d25, f3, nfT, by omega, trans_noF O rwk stT stN, by omega, pa, by omega, fun H26 s26 => ⟨_, rfl, ?_⟩⟩
      exact iteF ⟨_, _, _, _, rfl, x20.same (s2025.trans s26)⟩
  rintro σ H15 ⟨o8, o9, o10, o11, rfl, x15⟩
  exact q H15
end
end PK
namespace PK
open PySem L2
section
variable {P : Program} {w : World} {K : PySem.W.Frag} {mg : Str → Option Value} {base : Heap}
theorem none_okX {f : Addr} {fd : FuncData} {ps : List Str} {sp : Sp} {k : Nat} (no : ∀ vs H Q E, ¬ sp vs H Q E) : FnOk P w K mg base (L2.CX P w) k f fd ps sp :=
  ⟨fun vs H Q E h => absurd h (no vs H Q E), fun A outer s H args us vs Q E _ _ _ _ h => absurd h (no vs H Q E)⟩
theorem none_ok {f : Addr} {fd : FuncData} {ps : List Str} {sp : Sp} {k : Nat} (no : ∀ vs H Q E, ¬ sp vs H Q E) : FnOk P w K mg base CX0 k f fd ps sp :=
  ⟨fun vs H Q E h => absurd h (no vs H Q E), fun A outer s H args us vs Q E _ _ _ _ h => absurd h (no vs H Q E)⟩
theorem cal_mk {x : Str} {f : Addr} {fd : FuncData} {ps : List Str} {sp : Sp} {k : Nat} (G : FnOk P w K mg base CX0 k f fd ps sp) (m : mg x = some (.ref f)) (kp : PySem.W.keepIn K (.ref f) = true) (b : Binds K fd ps []) : C8.Cal P w K mg base k x sp [] :=
  ⟨f, fd, ps, [], G, m, kp, b, .nil⟩
end
theorem exm_self {K : PySem.W.Frag} {S : Addr} (h1 : PySem.W.subIn K (.ref S) (.type "BaseException") = some true) (h2 : PySem.W.isClsIn K S = true) (h3 : PySem.W.typeIn K (.ref S) = some (.type "type")) (h4 : PySem.W.subIn K (.ref S) (.ref S) = some true) :
    PySem.W.exmOne K (.ref S) (.ref S) = some true := by
  have e1 : (PySem.W.subIn K (.ref S) (.type "BaseException") == some true) = true := by rw [h1] <;> rfl
  have e2 : ((PySem.W.clsIn K S).isSome && PySem.W.typeIn K (.ref S) == some (.type "type")) = true := by
    have h2' : (PySem.W.clsIn K S).isSome = true := h2
    rw [h2', h3] <;> rfl
  show (if (PySem.W.subIn K (.ref S) (.type "BaseException") == some true) = true then (if ((PySem.W.clsIn K S).isSome && PySem.W.typeIn K (.ref S) == some (.type "type")) = true then PySem.W.subIn K (.ref S) (.ref S) else none) else none) = some true
  rw [if_pos e1, if_pos e2]
  exact h4
set_option maxHeartbeats 0 in
theorem all_mk {l : PySem.W.OpenLaw} {w : World} {K : PySem.W.Frag} {h : Heap} {mg : Str → Option Value} {fa f1 f2 f3 f4 f5 f6 f7 f8 f9 f10 f11 f12 f13 f14 f15 f16 f17 f18 f19 f20 f21 f22 f23 f24 f25 f26 f27 f28 f29 f30 f31 f32 f33 f34 f35 f36 f37 f38 f39 f40 f41 f42 f43 f44 f45 f46 f47 f48 f49 : Addr} (X : K.In h) (G : h.Ns mainGlobals mg) (hfa : mg "law" = some (.ref fa))
    {od1 an1 od2 an2 od3 an3 od4 an4 od5 an5 od6 an6 od7 an7 od8 an8 od9 an9 od10 an10 od11 an11 od12 an12 od13 an13 od14 an14 od15 an15 od16 an16 od17 an17 od18 an18 od19 an19 od20 an20 od21 an21 od22 an22 od23 an23 od24 an24 od25 an25 od26 an26 od27 an27 od28 an28 od29 an29 od30 an30 od31 an31 od32 an32 od33 an33 od34 an34 od35 an35 od36 an36 od37 an37 od38 an38 od39 an39 od40 an40 od41 an41 od42 an42 od43 an43 od44 an44 od45 an45 od46 an46 od47 an47 od48 an48 od49 an49 : Option Addr} {sl1 sl2 sl3 sl4 sl5 sl6 sl7 sl8 sl9 sl10 sl11 sl12 sl13 sl14 sl15 sl16 sl17 sl18 sl19 sl20 sl21 sl22 sl23 sl24 sl25 sl26 sl27 sl28 sl29 sl30 sl31 sl32 sl33 sl34 sl35 sl36 sl37 sl38 sl39 sl40 sl41 sl42 sl43 sl44 sl45 sl46 sl47 sl48 sl49 : Array (Option Value)} {oc1 kV1 dc1 pm1 cd1 ct1 oc2 kV2 dc2 pm2 cd2 ct2 oc3 kV3 dc3 pm3 cd3 ct3 oc4 kV4 dc4 pm4 cd4 ct4 oc5 kV5 dc5 pm5 cd5 ct5 oc6 kV6 dc6 pm6 cd6 ct6 oc7 kV7 dc7 pm7 cd7 ct7 oc8 kV8 dc8 pm8 cd8 ct8 oc9 kV9 dc9 pm9 cd9 ct9 oc10 kV10 dc10 pm10 cd10 ct10 oc11 kV11 dc11 pm11 cd11 ct11 oc12 kV12 dc12 pm12 cd12 ct12 oc13 kV13 dc13 pm13 cd13 ct13 oc14 kV14 dc14 pm14 cd14 ct14 oc15 kV15 dc15 pm15 cd15 ct15 oc16 kV16 dc16 pm16 cd16 ct16 oc17 kV17 dc17 pm17 cd17 ct17 oc18 kV18 dc18 pm18 cd18 ct18 oc19 kV19 dc19 pm19 cd19 ct19 oc20 kV20 dc20 pm20 cd20 ct20 oc21 kV21 dc21 pm21 cd21 ct21 oc22 kV22 dc22 pm22 cd22 ct22 oc23 kV23 dc23 pm23 cd23 ct23 oc24 kV24 dc24 pm24 cd24 ct24 oc25 kV25 dc25 pm25 cd25 ct25 oc26 kV26 dc26 pm26 cd26 ct26 oc27 kV27 dc27 pm27 cd27 ct27 oc28 kV28 dc28 pm28 cd28 ct28 oc29 kV29 dc29 pm29 cd29 ct29 oc30 kV30 dc30 pm30 cd30 ct30 oc31 kV31 dc31 pm31 cd31 ct31 oc32 kV32 dc32 pm32 cd32 ct32 oc33 kV33 dc33 pm33 cd33 ct33 oc34 kV34 dc34 pm34 cd34 ct34 oc35 kV35 dc35 pm35 cd35 ct35 oc36 kV36 dc36 pm36 cd36 ct36 oc37 kV37 dc37 pm37 cd37 ct37 oc38 kV38 dc38 pm38 cd38 ct38 oc39 kV39 dc39 pm39 cd39 ct39 oc40 kV40 dc40 pm40 cd40 ct40 oc41 kV41 dc41 pm41 cd41 ct41 oc42 kV42 dc42 pm42 cd42 ct42 oc43 kV43 dc43 pm43 cd43 ct43 oc44 kV44 dc44 pm44 cd44 ct44 oc45 kV45 dc45 pm45 cd45 ct45 oc46 kV46 dc46 pm46 cd46 ct46 oc47 kV47 dc47 pm47 cd47 ct47 oc48 kV48 dc48 pm48 cd48 ct48 oc49 kV49 dc49 pm49 cd49 ct49 : Value}
    (a1 : PySem.W.nsIn K mainGlobals "is_word" = some (some (.ref f1))) (l1 : K.lookup f1 = some ⟨oc1, od1, .func (PySem.W.fnOf "is_word" "is_word" (defArgs s_is_word) (defBody s_is_word) (defScope s_is_word) .none kV1 dc1 pm1 an1 cd1 ct1), sl1⟩) (c1 : PySem.W.codeIn K cd1 "is_word" = true) (k1 : PySem.W.keepIn K (.ref f1) = true)
    (a2 : PySem.W.nsIn K mainGlobals "is_whole" = some (some (.ref f2))) (l2 : K.lookup f2 = some ⟨oc2, od2, .func (PySem.W.fnOf "is_whole" "is_whole" (defArgs s_is_whole) (defBody s_is_whole) (defScope s_is_whole) .none kV2 dc2 pm2 an2 cd2 ct2), sl2⟩) (c2 : PySem.W.codeIn K cd2 "is_whole" = true) (k2 : PySem.W.keepIn K (.ref f2) = true)
    (a3 : PySem.W.nsIn K mainGlobals "children" = some (some (.ref f3))) (l3 : K.lookup f3 = some ⟨oc3, od3, .func (PySem.W.fnOf "children" "children" (defArgs s_children) (defBody s_children) (defScope s_children) .none kV3 dc3 pm3 an3 cd3 ct3), sl3⟩) (c3 : PySem.W.codeIn K cd3 "children" = true) (k3 : PySem.W.keepIn K (.ref f3) = true)
    (a4 : PySem.W.nsIn K mainGlobals "rebuild" = some (some (.ref f4))) (l4 : K.lookup f4 = some ⟨oc4, od4, .func (PySem.W.fnOf "rebuild" "rebuild" (defArgs s_rebuild) (defBody s_rebuild) (defScope s_rebuild) .none kV4 dc4 pm4 an4 cd4 ct4), sl4⟩) (c4 : PySem.W.codeIn K cd4 "rebuild" = true) (k4 : PySem.W.keepIn K (.ref f4) = true)
    (a5 : PySem.W.nsIn K mainGlobals "assembled" = some (some (.ref f5))) (l5 : K.lookup f5 = some ⟨oc5, od5, .func (PySem.W.fnOf "assembled" "assembled" (defArgs s_assembled) (defBody s_assembled) (defScope s_assembled) .none kV5 dc5 pm5 an5 cd5 ct5), sl5⟩) (c5 : PySem.W.codeIn K cd5 "assembled" = true) (k5 : PySem.W.keepIn K (.ref f5) = true)
    (a6 : PySem.W.nsIn K mainGlobals "parts_of" = some (some (.ref f6))) (l6 : K.lookup f6 = some ⟨oc6, od6, .func (PySem.W.fnOf "parts_of" "parts_of" (defArgs s_parts_of) (defBody s_parts_of) (defScope s_parts_of) .none kV6 dc6 pm6 an6 cd6 ct6), sl6⟩) (c6 : PySem.W.codeIn K cd6 "parts_of" = true) (k6 : PySem.W.keepIn K (.ref f6) = true)
    (a7 : PySem.W.nsIn K mainGlobals "integer" = some (some (.ref f7))) (l7 : K.lookup f7 = some ⟨oc7, od7, .func (PySem.W.fnOf "integer" "integer" (defArgs s_integer) (defBody s_integer) (defScope s_integer) .none kV7 dc7 pm7 an7 cd7 ct7), sl7⟩) (c7 : PySem.W.codeIn K cd7 "integer" = true) (k7 : PySem.W.keepIn K (.ref f7) = true)
    (a8 : PySem.W.nsIn K mainGlobals "_symbolic_part" = some (some (.ref f8))) (l8 : K.lookup f8 = some ⟨oc8, od8, .func (PySem.W.fnOf "_symbolic_part" "_symbolic_part" (defArgs s_symbolic_part) (defBody s_symbolic_part) (defScope s_symbolic_part) .none kV8 dc8 pm8 an8 cd8 ct8), sl8⟩) (c8 : PySem.W.codeIn K cd8 "_symbolic_part" = true) (k8 : PySem.W.keepIn K (.ref f8) = true)
    (a9 : PySem.W.nsIn K mainGlobals "symbolic" = some (some (.ref f9))) (l9 : K.lookup f9 = some ⟨oc9, od9, .func (PySem.W.fnOf "symbolic" "symbolic" (defArgs s_symbolic) (defBody s_symbolic) (defScope s_symbolic) .none kV9 dc9 pm9 an9 cd9 ct9), sl9⟩) (c9 : PySem.W.codeIn K cd9 "symbolic" = true) (k9 : PySem.W.keepIn K (.ref f9) = true)
    (a10 : PySem.W.nsIn K mainGlobals "place_of" = some (some (.ref f10))) (l10 : K.lookup f10 = some ⟨oc10, od10, .func (PySem.W.fnOf "place_of" "place_of" (defArgs s_place_of) (defBody s_place_of) (defScope s_place_of) .none kV10 dc10 pm10 an10 cd10 ct10), sl10⟩) (c10 : PySem.W.codeIn K cd10 "place_of" = true) (k10 : PySem.W.keepIn K (.ref f10) = true)
    (a11 : PySem.W.nsIn K mainGlobals "_come_to" = some (some (.ref f11))) (l11 : K.lookup f11 = some ⟨oc11, od11, .func (PySem.W.fnOf "_come_to" "_come_to" (defArgs s_come_to) (defBody s_come_to) (defScope s_come_to) .none kV11 dc11 pm11 an11 cd11 ct11), sl11⟩) (c11 : PySem.W.codeIn K cd11 "_come_to" = true) (k11 : PySem.W.keepIn K (.ref f11) = true)
    (a12 : PySem.W.nsIn K mainGlobals "_way_through" = some (some (.ref f12))) (l12 : K.lookup f12 = some ⟨oc12, od12, .func (PySem.W.fnOf "_way_through" "_way_through" (defArgs s_way_through) (defBody s_way_through) (defScope s_way_through) .none kV12 dc12 pm12 an12 cd12 ct12), sl12⟩) (c12 : PySem.W.codeIn K cd12 "_way_through" = true) (k12 : PySem.W.keepIn K (.ref f12) = true)
    (a13 : PySem.W.nsIn K mainGlobals "faults" = some (some (.ref f13))) (l13 : K.lookup f13 = some ⟨oc13, od13, .func (PySem.W.fnOf "faults" "faults" (defArgs s_faults) (defBody s_faults) (defScope s_faults) .none kV13 dc13 pm13 an13 cd13 ct13), sl13⟩) (c13 : PySem.W.codeIn K cd13 "faults" = true) (k13 : PySem.W.keepIn K (.ref f13) = true)
    (a14 : PySem.W.nsIn K mainGlobals "_faults_of" = some (some (.ref f14))) (l14 : K.lookup f14 = some ⟨oc14, od14, .func (PySem.W.fnOf "_faults_of" "_faults_of" (defArgs s_faults_of) (defBody s_faults_of) (defScope s_faults_of) .none kV14 dc14 pm14 an14 cd14 ct14), sl14⟩) (c14 : PySem.W.codeIn K cd14 "_faults_of" = true) (k14 : PySem.W.keepIn K (.ref f14) = true)
    (a15 : PySem.W.nsIn K mainGlobals "check_constructors" = some (some (.ref f15))) (l15 : K.lookup f15 = some ⟨oc15, od15, .func (PySem.W.fnOf "check_constructors" "check_constructors" (defArgs s_check_constructors) (defBody s_check_constructors) (defScope s_check_constructors) .none kV15 dc15 pm15 an15 cd15 ct15), sl15⟩) (c15 : PySem.W.codeIn K cd15 "check_constructors" = true) (k15 : PySem.W.keepIn K (.ref f15) = true)
    (a16 : PySem.W.nsIn K mainGlobals "wrong_part_constructors" = some (some (.ref f16))) (l16 : K.lookup f16 = some ⟨oc16, od16, .func (PySem.W.fnOf "_wrong_part" "_wrong_part" (defArgs s_wrong_part_constructors) (defBody s_wrong_part_constructors) (defScope s_wrong_part_constructors) .none kV16 dc16 pm16 an16 cd16 ct16), sl16⟩) (c16 : PySem.W.codeIn K cd16 "_wrong_part" = true) (k16 : PySem.W.keepIn K (.ref f16) = true)
    (a17 : PySem.W.nsIn K mainGlobals "_are_places" = some (some (.ref f17))) (l17 : K.lookup f17 = some ⟨oc17, od17, .func (PySem.W.fnOf "_are_places" "_are_places" (defArgs s_are_places) (defBody s_are_places) (defScope s_are_places) .none kV17 dc17 pm17 an17 cd17 ct17), sl17⟩) (c17 : PySem.W.codeIn K cd17 "_are_places" = true) (k17 : PySem.W.keepIn K (.ref f17) = true)
    (a18 : PySem.W.nsIn K mainGlobals "_check_rules" = some (some (.ref f18))) (l18 : K.lookup f18 = some ⟨oc18, od18, .func (PySem.W.fnOf "_check_rules" "_check_rules" (defArgs s_check_rules) (defBody s_check_rules) (defScope s_check_rules) .none kV18 dc18 pm18 an18 cd18 ct18), sl18⟩) (c18 : PySem.W.codeIn K cd18 "_check_rules" = true) (k18 : PySem.W.keepIn K (.ref f18) = true)
    (a19 : PySem.W.nsIn K mainGlobals "wrong_part_languages" = some (some (.ref f19))) (l19 : K.lookup f19 = some ⟨oc19, od19, .func (PySem.W.fnOf "_wrong_part" "_wrong_part" (defArgs s_wrong_part_languages) (defBody s_wrong_part_languages) (defScope s_wrong_part_languages) .none kV19 dc19 pm19 an19 cd19 ct19), sl19⟩) (c19 : PySem.W.codeIn K cd19 "_wrong_part" = true) (k19 : PySem.W.keepIn K (.ref f19) = true)
    (a20 : PySem.W.nsIn K mainGlobals "check_pass" = some (some (.ref f20))) (l20 : K.lookup f20 = some ⟨oc20, od20, .func (PySem.W.fnOf "check_pass" "check_pass" (defArgs s_check_pass) (defBody s_check_pass) (defScope s_check_pass) .none kV20 dc20 pm20 an20 cd20 ct20), sl20⟩) (c20 : PySem.W.codeIn K cd20 "check_pass" = true) (k20 : PySem.W.keepIn K (.ref f20) = true)
    (a21 : PySem.W.nsIn K mainGlobals "wrong_part_passes" = some (some (.ref f21))) (l21 : K.lookup f21 = some ⟨oc21, od21, .func (PySem.W.fnOf "_wrong_part" "_wrong_part" (defArgs s_wrong_part_passes) (defBody s_wrong_part_passes) (defScope s_wrong_part_passes) .none kV21 dc21 pm21 an21 cd21 ct21), sl21⟩) (c21 : PySem.W.codeIn K cd21 "_wrong_part" = true) (k21 : PySem.W.keepIn K (.ref f21) = true)
    (a22 : PySem.W.nsIn K mainGlobals "_are_parameters" = some (some (.ref f22))) (l22 : K.lookup f22 = some ⟨oc22, od22, .func (PySem.W.fnOf "_are_parameters" "_are_parameters" (defArgs s_are_parameters) (defBody s_are_parameters) (defScope s_are_parameters) .none kV22 dc22 pm22 an22 cd22 ct22), sl22⟩) (c22 : PySem.W.codeIn K cd22 "_are_parameters" = true) (k22 : PySem.W.keepIn K (.ref f22) = true)
    (a23 : PySem.W.nsIn K mainGlobals "_has_right_head" = some (some (.ref f23))) (l23 : K.lookup f23 = some ⟨oc23, od23, .func (PySem.W.fnOf "_has_right_head" "_has_right_head" (defArgs s_has_right_head) (defBody s_has_right_head) (defScope s_has_right_head) .none kV23 dc23 pm23 an23 cd23 ct23), sl23⟩) (c23 : PySem.W.codeIn K cd23 "_has_right_head" = true) (k23 : PySem.W.keepIn K (.ref f23) = true)
    (a24 : PySem.W.nsIn K mainGlobals "templates_of" = some (some (.ref f24))) (l24 : K.lookup f24 = some ⟨oc24, od24, .func (PySem.W.fnOf "templates_of" "templates_of" (defArgs s_templates_of) (defBody s_templates_of) (defScope s_templates_of) .none kV24 dc24 pm24 an24 cd24 ct24), sl24⟩) (c24 : PySem.W.codeIn K cd24 "templates_of" = true) (k24 : PySem.W.keepIn K (.ref f24) = true)
    (a25 : PySem.W.nsIn K mainGlobals "translate" = some (some (.ref f25))) (l25 : K.lookup f25 = some ⟨oc25, od25, .func (PySem.W.fnOf "translate" "translate" (defArgs s_translate) (defBody s_translate) (defScope s_translate) .none kV25 dc25 pm25 an25 cd25 ct25), sl25⟩) (c25 : PySem.W.codeIn K cd25 "translate" = true) (k25 : PySem.W.keepIn K (.ref f25) = true)
    (a26 : PySem.W.nsIn K mainGlobals "_law_pool" = some (some (.ref f26))) (l26 : K.lookup f26 = some ⟨oc26, od26, .func (PySem.W.fnOf "_law_pool" "_law_pool" (defArgs s_law_pool) (defBody s_law_pool) (defScope s_law_pool) .none kV26 dc26 pm26 an26 cd26 ct26), sl26⟩) (c26 : PySem.W.codeIn K cd26 "_law_pool" = true) (k26 : PySem.W.keepIn K (.ref f26) = true)
    (a27 : PySem.W.nsIn K mainGlobals "_law_take" = some (some (.ref f27))) (l27 : K.lookup f27 = some ⟨oc27, od27, .func (PySem.W.fnOf "_law_take" "_law_take" (defArgs s_law_take) (defBody s_law_take) (defScope s_law_take) .none kV27 dc27 pm27 an27 cd27 ct27), sl27⟩) (c27 : PySem.W.codeIn K cd27 "_law_take" = true) (k27 : PySem.W.keepIn K (.ref f27) = true)
    (a28 : PySem.W.nsIn K mainGlobals "_law_word" = some (some (.ref f28))) (l28 : K.lookup f28 = some ⟨oc28, od28, .func (PySem.W.fnOf "_law_word" "_law_word" (defArgs s_law_word) (defBody s_law_word) (defScope s_law_word) .none kV28 dc28 pm28 an28 cd28 ct28), sl28⟩) (c28 : PySem.W.codeIn K cd28 "_law_word" = true) (k28 : PySem.W.keepIn K (.ref f28) = true)
    (a29 : PySem.W.nsIn K mainGlobals "_law_places" = some (some (.ref f29))) (l29 : K.lookup f29 = some ⟨oc29, od29, .func (PySem.W.fnOf "_law_places" "_law_places" (defArgs s_law_places) (defBody s_law_places) (defScope s_law_places) .none kV29 dc29 pm29 an29 cd29 ct29), sl29⟩) (c29 : PySem.W.codeIn K cd29 "_law_places" = true) (k29 : PySem.W.keepIn K (.ref f29) = true)
    (a30 : PySem.W.nsIn K mainGlobals "_law_constructors" = some (some (.ref f30))) (l30 : K.lookup f30 = some ⟨oc30, od30, .func (PySem.W.fnOf "_law_constructors" "_law_constructors" (defArgs s_law_constructors) (defBody s_law_constructors) (defScope s_law_constructors) .none kV30 dc30 pm30 an30 cd30 ct30), sl30⟩) (c30 : PySem.W.codeIn K cd30 "_law_constructors" = true) (k30 : PySem.W.keepIn K (.ref f30) = true)
    (a31 : PySem.W.nsIn K mainGlobals "_law_atom" = some (some (.ref f31))) (l31 : K.lookup f31 = some ⟨oc31, od31, .func (PySem.W.fnOf "_law_atom" "_law_atom" (defArgs s_law_atom) (defBody s_law_atom) (defScope s_law_atom) .none kV31 dc31 pm31 an31 cd31 ct31), sl31⟩) (c31 : PySem.W.codeIn K cd31 "_law_atom" = true) (k31 : PySem.W.keepIn K (.ref f31) = true)
    (a32 : PySem.W.nsIn K mainGlobals "_law_term" = some (some (.ref f32))) (l32 : K.lookup f32 = some ⟨oc32, od32, .func (PySem.W.fnOf "_law_term" "_law_term" (defArgs s_law_term) (defBody s_law_term) (defScope s_law_term) .none kV32 dc32 pm32 an32 cd32 ct32), sl32⟩) (c32 : PySem.W.codeIn K cd32 "_law_term" = true) (k32 : PySem.W.keepIn K (.ref f32) = true)
    (a33 : PySem.W.nsIn K mainGlobals "_law_filled" = some (some (.ref f33))) (l33 : K.lookup f33 = some ⟨oc33, od33, .func (PySem.W.fnOf "_law_filled" "_law_filled" (defArgs s_law_filled) (defBody s_law_filled) (defScope s_law_filled) .none kV33 dc33 pm33 an33 cd33 ct33), sl33⟩) (c33 : PySem.W.codeIn K cd33 "_law_filled" = true) (k33 : PySem.W.keepIn K (.ref f33) = true)
    (a34 : PySem.W.nsIn K mainGlobals "_law_translated" = some (some (.ref f34))) (l34 : K.lookup f34 = some ⟨oc34, od34, .func (PySem.W.fnOf "_law_translated" "_law_translated" (defArgs s_law_translated) (defBody s_law_translated) (defScope s_law_translated) .none kV34 dc34 pm34 an34 cd34 ct34), sl34⟩) (c34 : PySem.W.codeIn K cd34 "_law_translated" = true) (k34 : PySem.W.keepIn K (.ref f34) = true)
    (a35 : PySem.W.nsIn K mainGlobals "_law_size" = some (some (.ref f35))) (l35 : K.lookup f35 = some ⟨oc35, od35, .func (PySem.W.fnOf "_law_size" "_law_size" (defArgs s_law_size) (defBody s_law_size) (defScope s_law_size) .none kV35 dc35 pm35 an35 cd35 ct35), sl35⟩) (c35 : PySem.W.codeIn K cd35 "_law_size" = true) (k35 : PySem.W.keepIn K (.ref f35) = true)
    (a36 : PySem.W.nsIn K mainGlobals "_law_is_integer" = some (some (.ref f36))) (l36 : K.lookup f36 = some ⟨oc36, od36, .func (PySem.W.fnOf "_law_is_integer" "_law_is_integer" (defArgs s_law_is_integer) (defBody s_law_is_integer) (defScope s_law_is_integer) .none kV36 dc36 pm36 an36 cd36 ct36), sl36⟩) (c36 : PySem.W.codeIn K cd36 "_law_is_integer" = true) (k36 : PySem.W.keepIn K (.ref f36) = true)
    (a37 : PySem.W.nsIn K mainGlobals "_law_same" = some (some (.ref f37))) (l37 : K.lookup f37 = some ⟨oc37, od37, .func (PySem.W.fnOf "_law_same" "_law_same" (defArgs s_law_same) (defBody s_law_same) (defScope s_law_same) .none kV37 dc37 pm37 an37 cd37 ct37), sl37⟩) (c37 : PySem.W.codeIn K cd37 "_law_same" = true) (k37 : PySem.W.keepIn K (.ref f37) = true)
    (a38 : PySem.W.nsIn K mainGlobals "_law_cut" = some (some (.ref f38))) (l38 : K.lookup f38 = some ⟨oc38, od38, .func (PySem.W.fnOf "_law_cut" "_law_cut" (defArgs s_law_cut) (defBody s_law_cut) (defScope s_law_cut) .none kV38 dc38 pm38 an38 cd38 ct38), sl38⟩) (c38 : PySem.W.codeIn K cd38 "_law_cut" = true) (k38 : PySem.W.keepIn K (.ref f38) = true)
    (a39 : PySem.W.nsIn K mainGlobals "_law_shape" = some (some (.ref f39))) (l39 : K.lookup f39 = some ⟨oc39, od39, .func (PySem.W.fnOf "_law_shape" "_law_shape" (defArgs s_law_shape) (defBody s_law_shape) (defScope s_law_shape) .none kV39 dc39 pm39 an39 cd39 ct39), sl39⟩) (c39 : PySem.W.codeIn K cd39 "_law_shape" = true) (k39 : PySem.W.keepIn K (.ref f39) = true)
    (a40 : PySem.W.nsIn K mainGlobals "_law_is_value" = some (some (.ref f40))) (l40 : K.lookup f40 = some ⟨oc40, od40, .func (PySem.W.fnOf "_law_is_value" "_law_is_value" (defArgs s_law_is_value) (defBody s_law_is_value) (defScope s_law_is_value) .none kV40 dc40 pm40 an40 cd40 ct40), sl40⟩) (c40 : PySem.W.codeIn K cd40 "_law_is_value" = true) (k40 : PySem.W.keepIn K (.ref f40) = true)
    (a41 : PySem.W.nsIn K mainGlobals "_law_inner" = some (some (.ref f41))) (l41 : K.lookup f41 = some ⟨oc41, od41, .func (PySem.W.fnOf "_law_inner" "_law_inner" (defArgs s_law_inner) (defBody s_law_inner) (defScope s_law_inner) .none kV41 dc41 pm41 an41 cd41 ct41), sl41⟩) (c41 : PySem.W.codeIn K cd41 "_law_inner" = true) (k41 : PySem.W.keepIn K (.ref f41) = true)
    (a42 : PySem.W.nsIn K mainGlobals "_law_standing" = some (some (.ref f42))) (l42 : K.lookup f42 = some ⟨oc42, od42, .func (PySem.W.fnOf "_law_standing" "_law_standing" (defArgs s_law_standing) (defBody s_law_standing) (defScope s_law_standing) .none kV42 dc42 pm42 an42 cd42 ct42), sl42⟩) (c42 : PySem.W.codeIn K cd42 "_law_standing" = true) (k42 : PySem.W.keepIn K (.ref f42) = true)
    (a43 : PySem.W.nsIn K mainGlobals "_law_comes_to" = some (some (.ref f43))) (l43 : K.lookup f43 = some ⟨oc43, od43, .func (PySem.W.fnOf "_law_comes_to" "_law_comes_to" (defArgs s_law_comes_to) (defBody s_law_comes_to) (defScope s_law_comes_to) .none kV43 dc43 pm43 an43 cd43 ct43), sl43⟩) (c43 : PySem.W.codeIn K cd43 "_law_comes_to" = true) (k43 : PySem.W.keepIn K (.ref f43) = true)
    (a44 : PySem.W.nsIn K mainGlobals "_law_order" = some (some (.ref f44))) (l44 : K.lookup f44 = some ⟨oc44, od44, .func (PySem.W.fnOf "_law_order" "_law_order" (defArgs s_law_order) (defBody s_law_order) (defScope s_law_order) .none kV44 dc44 pm44 an44 cd44 ct44), sl44⟩) (c44 : PySem.W.codeIn K cd44 "_law_order" = true) (k44 : PySem.W.keepIn K (.ref f44) = true)
    (a45 : PySem.W.nsIn K mainGlobals "_law_target" = some (some (.ref f45))) (l45 : K.lookup f45 = some ⟨oc45, od45, .func (PySem.W.fnOf "_law_target" "_law_target" (defArgs s_law_target) (defBody s_law_target) (defScope s_law_target) .none kV45 dc45 pm45 an45 cd45 ct45), sl45⟩) (c45 : PySem.W.codeIn K cd45 "_law_target" = true) (k45 : PySem.W.keepIn K (.ref f45) = true)
    (a46 : PySem.W.nsIn K mainGlobals "_law_exchanged" = some (some (.ref f46))) (l46 : K.lookup f46 = some ⟨oc46, od46, .func (PySem.W.fnOf "_law_exchanged" "_law_exchanged" (defArgs s_law_exchanged) (defBody s_law_exchanged) (defScope s_law_exchanged) .none kV46 dc46 pm46 an46 cd46 ct46), sl46⟩) (c46 : PySem.W.codeIn K cd46 "_law_exchanged" = true) (k46 : PySem.W.keepIn K (.ref f46) = true)
    (a47 : PySem.W.nsIn K mainGlobals "_law_program" = some (some (.ref f47))) (l47 : K.lookup f47 = some ⟨oc47, od47, .func (PySem.W.fnOf "_law_program" "_law_program" (defArgs s_law_program) (defBody s_law_program) (defScope s_law_program) .none kV47 dc47 pm47 an47 cd47 ct47), sl47⟩) (c47 : PySem.W.codeIn K cd47 "_law_program" = true) (k47 : PySem.W.keepIn K (.ref f47) = true)
    (a48 : PySem.W.nsIn K mainGlobals "_law_atoms_in_maps" = some (some (.ref f48))) (l48 : K.lookup f48 = some ⟨oc48, od48, .func (PySem.W.fnOf "_law_atoms_in_maps" "_law_atoms_in_maps" (defArgs s_law_atoms_in_maps) (defBody s_law_atoms_in_maps) (defScope s_law_atoms_in_maps) .none kV48 dc48 pm48 an48 cd48 ct48), sl48⟩) (c48 : PySem.W.codeIn K cd48 "_law_atoms_in_maps" = true) (k48 : PySem.W.keepIn K (.ref f48) = true)
    (a49 : PySem.W.nsIn K mainGlobals "law" = some (some (.ref f49))) (l49 : K.lookup f49 = some ⟨oc49, od49, .func (PySem.W.fnOf "law" "law" (defArgs s_law) (defBody s_law) (defScope s_law) .none kV49 dc49 pm49 an49 cd49 ct49), sl49⟩) (c49 : PySem.W.codeIn K cd49 "law" = true) (k49 : PySem.W.keepIn K (.ref f49) = true)
    (z_len : PySem.W.nsIn K mainGlobals "len" = some none) (z_int : PySem.W.nsIn K mainGlobals "int" = some none) (z_range : PySem.W.nsIn K mainGlobals "range" = some none) (z_min : PySem.W.nsIn K mainGlobals "min" = some none) (z_str : PySem.W.nsIn K mainGlobals "str" = some none) (z_tuple : PySem.W.nsIn K mainGlobals "tuple" = some none) (z_sorted : PySem.W.nsIn K mainGlobals "sorted" = some none) (z_isinstance : PySem.W.nsIn K mainGlobals "isinstance" = some none) (z_any : PySem.W.nsIn K mainGlobals "any" = some none) (z_all : PySem.W.nsIn K mainGlobals "all" = some none) (z_list : PySem.W.nsIn K mainGlobals "list" = some none) (z_bool : PySem.W.nsIn K mainGlobals "bool" = some none) (z_enumerate : PySem.W.nsIn K mainGlobals "enumerate" = some none) (z_sum : PySem.W.nsIn K mainGlobals "sum" = some none) (z_zip : PySem.W.nsIn K mainGlobals "zip" = some none) (z_reversed : PySem.W.nsIn K mainGlobals "reversed" = some none) (z_dict : PySem.W.nsIn K mainGlobals "dict" = some none)
    {ti0 : Tok} (gi0 : PySem.W.nsIn K mainGlobals "MOST_CHARACTERS" = some (some (.int 12 ti0)))
    {ti1 : Tok} (gi1 : PySem.W.nsIn K mainGlobals "MOST_ARGUMENTS" = some (some (.int 6 ti1)))
    {ti2 : Tok} (gi2 : PySem.W.nsIn K mainGlobals "MOST_CONSTRUCTORS" = some (some (.int 40 ti2)))
    {ti3 : Tok} (gi3 : PySem.W.nsIn K mainGlobals "MOST_RULES" = some (some (.int 60 ti3)))
    {ti4 : Tok} (gi4 : PySem.W.nsIn K mainGlobals "MOST_PARTS" = some (some (.int 4000 ti4)))
    {ti5 : Tok} (gi5 : PySem.W.nsIn K mainGlobals "MOST_NESTED" = some (some (.int 200 ti5)))
    {tz0 : Tok} (gz0 : PySem.W.nsIn K mainGlobals "LETTERS" = some (some (.str LET tz0)))
    {tz1 : Tok} (gz1 : PySem.W.nsIn K mainGlobals "WORD_CHARACTERS" = some (some (.str OTH tz1)))
    {aF : Addr} {odaF : Option Addr} {naF : Nat} {slaF : Array (Option Value)} {uaF0 uaF1 uaF2 uaF3 : Tok} (gtaF : PySem.W.nsIn K mainGlobals "FORMS_terms" = some (some (.ref aF))) (ltaF : K.lookup aF = some ⟨.type "tuple", odaF, .seq #[.str "get" uaF0, .str "set" uaF1, .str "plus" uaF2, .str "minus" uaF3] naF, slaF⟩)
    {aR : Addr} {odaR : Option Addr} {naR : Nat} {slaR : Array (Option Value)} {uaR0 uaR1 uaR2 uaR3 uaR4 uaR5 uaR6 uaR7 : Tok} (gtaR : PySem.W.nsIn K mainGlobals "_RESERVED" = some (some (.ref aR))) (ltaR : K.lookup aR = some ⟨.type "tuple", odaR, .seq #[.str "get" uaR0, .str "set" uaR1, .str "plus" uaR2, .str "minus" uaR3, .str "new" uaR4, .str "read" uaR5, .str "write" uaR6, .str "put" uaR7] naR, slaR⟩)
    {aL : Addr} {odaL : Option Addr} {naL : Nat} {slaL : Array (Option Value)} {uaL0 uaL1 uaL2 uaL3 : Tok} (gtaL : PySem.W.nsIn K mainGlobals "LEAVES_passes" = some (some (.ref aL))) (ltaL : K.lookup aL = some ⟨.type "tuple", odaL, .seq #[.str "int" uaL0, .str "name" uaL1, .str "addr" uaL2, .str "meta" uaL3] naL, slaL⟩)
    {CN CK CL : Addr} {fM0 fM1 fM2 fM3 fM4 fM5 fM6 : Addr} {odM0 anM0 odM1 anM1 odM2 anM2 odM3 anM3 odM4 anM4 odM5 anM5 odM6 anM6 : Option Addr} {slM0 slM1 slM2 slM3 slM4 slM5 slM6 : Array (Option Value)} {ocM0 kVM0 dcM0 pmM0 cdM0 ctM0 ocM1 kVM1 dcM1 pmM1 cdM1 ctM1 ocM2 kVM2 dcM2 pmM2 cdM2 ctM2 ocM3 kVM3 dcM3 pmM3 cdM3 ctM3 ocM4 kVM4 dcM4 pmM4 cdM4 ctM4 ocM5 kVM5 dcM5 pmM5 cdM5 ctM5 ocM6 kVM6 dcM6 pmM6 cdM6 ctM6 : Value}
    (nN : PySem.W.nsIn K mainGlobals "Language" = some (some (.ref CN)))
    (nK : PySem.W.nsIn K mainGlobals "Knowledge" = some (some (.ref CK)))
    (aM0 : PySem.W.findIn K (.ref CN) "__init__" = some (some (.ref fM0)))
    (iM0 : PySem.W.isFn K (.ref fM0) = true)
    (lM0 : K.lookup fM0 = some ⟨ocM0, odM0, .func (PySem.W.fnOf "__init__" "Language.__init__" (defArgs s_Language___init__) (defBody s_Language___init__) (defScope s_Language___init__) .none kVM0 dcM0 pmM0 anM0 cdM0 ctM0), slM0⟩)
    (cM0 : PySem.W.codeIn K cdM0 "Language.__init__" = true)
    (kM0 : PySem.W.keepIn K (.ref fM0) = true)
    (aM1 : PySem.W.findIn K (.ref CN) "constructor" = some (some (.ref fM1)))
    (iM1 : PySem.W.isFn K (.ref fM1) = true)
    (lM1 : K.lookup fM1 = some ⟨ocM1, odM1, .func (PySem.W.fnOf "constructor" "Language.constructor" (defArgs s_Language_constructor) (defBody s_Language_constructor) (defScope s_Language_constructor) .none kVM1 dcM1 pmM1 anM1 cdM1 ctM1), slM1⟩)
    (cM1 : PySem.W.codeIn K cdM1 "Language.constructor" = true)
    (kM1 : PySem.W.keepIn K (.ref fM1) = true)
    (aM2 : PySem.W.findIn K (.ref CK) "__init__" = some (some (.ref fM2)))
    (iM2 : PySem.W.isFn K (.ref fM2) = true)
    (lM2 : K.lookup fM2 = some ⟨ocM2, odM2, .func (PySem.W.fnOf "__init__" "Knowledge.__init__" (defArgs s_Knowledge___init__) (defBody s_Knowledge___init__) (defScope s_Knowledge___init__) .none kVM2 dcM2 pmM2 anM2 cdM2 ctM2), slM2⟩)
    (cM2 : PySem.W.codeIn K cdM2 "Knowledge.__init__" = true)
    (kM2 : PySem.W.keepIn K (.ref fM2) = true)
    (aM3 : PySem.W.findIn K (.ref CK) "_twin" = some (some (.ref fM3)))
    (iM3 : PySem.W.isFn K (.ref fM3) = true)
    (lM3 : K.lookup fM3 = some ⟨ocM3, odM3, .func (PySem.W.fnOf "_twin" "Knowledge._twin" (defArgs s_Knowledge__twin) (defBody s_Knowledge__twin) (defScope s_Knowledge__twin) .none kVM3 dcM3 pmM3 anM3 cdM3 ctM3), slM3⟩)
    (cM3 : PySem.W.codeIn K cdM3 "Knowledge._twin" = true)
    (kM3 : PySem.W.keepIn K (.ref fM3) = true)
    (aM4 : PySem.W.findIn K (.ref CK) "fresh" = some (some (.ref fM4)))
    (iM4 : PySem.W.isFn K (.ref fM4) = true)
    (lM4 : K.lookup fM4 = some ⟨ocM4, odM4, .func (PySem.W.fnOf "fresh" "Knowledge.fresh" (defArgs s_Knowledge_fresh) (defBody s_Knowledge_fresh) (defScope s_Knowledge_fresh) .none kVM4 dcM4 pmM4 anM4 cdM4 ctM4), slM4⟩)
    (cM4 : PySem.W.codeIn K cdM4 "Knowledge.fresh" = true)
    (kM4 : PySem.W.keepIn K (.ref fM4) = true)
    (aM5 : PySem.W.findIn K (.ref CK) "with_worth" = some (some (.ref fM5)))
    (iM5 : PySem.W.isFn K (.ref fM5) = true)
    (lM5 : K.lookup fM5 = some ⟨ocM5, odM5, .func (PySem.W.fnOf "with_worth" "Knowledge.with_worth" (defArgs s_Knowledge_with_worth) (defBody s_Knowledge_with_worth) (defScope s_Knowledge_with_worth) .none kVM5 dcM5 pmM5 anM5 cdM5 ctM5), slM5⟩)
    (cM5 : PySem.W.codeIn K cdM5 "Knowledge.with_worth" = true)
    (kM5 : PySem.W.keepIn K (.ref fM5) = true)
    (aM6 : PySem.W.findIn K (.ref CK) "looked" = some (some (.ref fM6)))
    (iM6 : PySem.W.isFn K (.ref fM6) = true)
    (lM6 : K.lookup fM6 = some ⟨ocM6, odM6, .func (PySem.W.fnOf "looked" "Knowledge.looked" (defArgs s_Knowledge_looked) (defBody s_Knowledge_looked) (defScope s_Knowledge_looked) .none kVM6 dcM6 pmM6 anM6 cdM6 ctM6), slM6⟩)
    (cM6 : PySem.W.codeIn K cdM6 "Knowledge.looked" = true)
    (kM6 : PySem.W.keepIn K (.ref fM6) = true)
    (pgCN : PySem.W.plainGet K CN Str.empty = true)
    (hdCN : PySem.W.hasDictIn K CN = true)
    (poCN : PySem.W.plainOver K CN = true)
    (saCN : PySem.W.findIn K (.ref CN) "__setattr__" = some (some (.builtin "object.__setattr__")))
    (mkCN : PySem.W.makesIn K CN = true)
    (kcCN : PySem.W.keepIn K (.ref CN) = true)
    (pgCK : PySem.W.plainGet K CK Str.empty = true)
    (hdCK : PySem.W.hasDictIn K CK = true)
    (poCK : PySem.W.plainOver K CK = true)
    (saCK : PySem.W.findIn K (.ref CK) "__setattr__" = some (some (.builtin "object.__setattr__")))
    (mkCK : PySem.W.makesIn K CK = true)
    (kcCK : PySem.W.keepIn K (.ref CK) = true)
    (nN0 : PySem.W.findIn K (.ref CN) "constructors" = some none)
    (nN1 : PySem.W.findIn K (.ref CN) "_table" = some none)
    (nN2 : PySem.W.findIn K (.ref CN) "rules" = some none)
    (nK0 : PySem.W.findIn K (.ref CK) "sorts" = some none)
    (nK1 : PySem.W.findIn K (.ref CK) "worths" = some none)
    (nK2 : PySem.W.findIn K (.ref CK) "conditions" = some none)
    (nK3 : PySem.W.findIn K (.ref CK) "got" = some none)
    (nK4 : PySem.W.findIn K (.ref CK) "many" = some none)
    (nK5 : PySem.W.findIn K (.ref CK) "_templates" = some none)
    (nK6 : PySem.W.findIn K (.ref CK) "_ground" = some none)
    (aCL : PySem.W.nsIn K mainGlobals "TooLarge" = some (some (.ref CL)))
    (xL : PySem.W.excIn K CL [.type "ValueError", .type "Exception", .type "BaseException", .type "object"] "ValueError.__new__" = true)
    (kL : PySem.W.keepIn K (.ref CL) = true)
    (bL : PySem.W.subIn K (.ref CL) (.type "BaseException") = some true)
    (tL : PySem.W.typeIn K (.ref CL) = some (.type "type"))
    (iL : PySem.W.isClsIn K CL = true)
    (sL : PySem.W.subIn K (.ref CL) (.ref CL) = some true) :
    ∃ fd : FuncData, (∀ (s : Shared) (v : Value), BindsTo s fd ⟨[v], []⟩ [("script", v)]) ∧ ∀ base : Heap, K.In base → base.Ns mainGlobals mg → FnOk l.prog w K mg base CX0 110 fa fd ["script"] (spLaw K) := by
  have e := hfa.symm.trans (PySem.W.mg_of X G a49)
  cases e
  have F1 := fun_mk (st := s_is_word) l1 c1 k1
  have b1 := F1.binds (ps := ["text"]) fun _ _ _ _ _ _ us hl => match us, hl with | [_], _ => rfl
  have m1 := PySem.W.mg_of X G a1
  have F2 := fun_mk (st := s_is_whole) l2 c2 k2
  have b2 := F2.binds (ps := ["number"]) fun _ _ _ _ _ _ us hl => match us, hl with | [_], _ => rfl
  have m2 := PySem.W.mg_of X G a2
  have F3 := fun_mk (st := s_children) l3 c3 k3
  have b3 := F3.binds (ps := ["term"]) fun _ _ _ _ _ _ us hl => match us, hl with | [_], _ => rfl
  have m3 := PySem.W.mg_of X G a3
  have F4 := fun_mk (st := s_rebuild) l4 c4 k4
  have b4 := F4.binds (ps := ["term", "parts"]) fun _ _ _ _ _ _ us hl => match us, hl with | [_, _], _ => rfl
  have m4 := PySem.W.mg_of X G a4
  have F5 := fun_mk (st := s_assembled) l5 c5 k5
  have b5 := F5.binds (ps := ["heads"]) fun _ _ _ _ _ _ us hl => match us, hl with | [_], _ => rfl
  have m5 := PySem.W.mg_of X G a5
  have F6 := fun_mk (st := s_parts_of) l6 c6 k6
  have b6 := F6.binds (ps := ["term"]) fun _ _ _ _ _ _ us hl => match us, hl with | [_], _ => rfl
  have m6 := PySem.W.mg_of X G a6
  have F7 := fun_mk (st := s_integer) l7 c7 k7
  have b7 := F7.binds (ps := ["n"]) fun _ _ _ _ _ _ us hl => match us, hl with | [_], _ => rfl
  have m7 := PySem.W.mg_of X G a7
  have F8 := fun_mk (st := s_symbolic_part) l8 c8 k8
  have b8 := F8.binds (ps := ["part", "inner", "unknowns"]) fun _ _ _ _ _ _ us hl => match us, hl with | [_, _, _], _ => rfl
  have m8 := PySem.W.mg_of X G a8
  have F9 := fun_mk (st := s_symbolic) l9 c9 k9
  have b9 := F9.binds (ps := ["term", "unknowns"]) fun _ _ _ _ _ _ us hl => match us, hl with | [_, _], _ => rfl
  have m9 := PySem.W.mg_of X G a9
  have F10 := fun_mk (st := s_place_of) l10 c10 k10
  have b10 := F10.binds (ps := ["language", "known", "term"]) fun _ _ _ _ _ _ us hl => match us, hl with | [_, _, _], _ => rfl
  have m10 := PySem.W.mg_of X G a10
  have F11 := fun_mk (st := s_come_to) l11 c11 k11
  have b11 := F11.binds (ps := ["known", "term"]) fun _ _ _ _ _ _ us hl => match us, hl with | [_, _], _ => rfl
  have m11 := PySem.W.mg_of X G a11
  have F12 := fun_mk (st := s_way_through) l12 c12 k12
  have b12 := F12.binds (ps := ["language", "nodes", "passed"]) fun _ _ _ _ _ _ us hl => match us, hl with | [_, _, _], _ => rfl
  have m12 := PySem.W.mg_of X G a12
  have F13 := fun_mk (st := s_faults) l13 c13 k13
  have b13 := F13.binds (ps := ["source", "target", "rows"]) fun _ _ _ _ _ _ us hl => match us, hl with | [_, _, _], _ => rfl
  have m13 := PySem.W.mg_of X G a13
  have F14 := fun_mk (st := s_faults_of) l14 c14 k14
  have b14 := F14.binds (ps := ["target", "constructor", "row"]) fun _ _ _ _ _ _ us hl => match us, hl with | [_, _, _], _ => rfl
  have m14 := PySem.W.mg_of X G a14
  have F15 := fun_mk (st := s_check_constructors) l15 c15 k15
  have b15 := F15.binds (ps := ["constructors"]) fun _ _ _ _ _ _ us hl => match us, hl with | [_], _ => rfl
  have m15 := PySem.W.mg_of X G a15
  have F16 := fun_mk (st := s_wrong_part_constructors) l16 c16 k16
  have b16 := F16.binds (ps := ["constructor"]) fun _ _ _ _ _ _ us hl => match us, hl with | [_], _ => rfl
  have m16 := PySem.W.mg_of X G a16
  have F17 := fun_mk (st := s_are_places) l17 c17 k17
  have b17 := F17.binds (ps := ["strict", "many"]) fun _ _ _ _ _ _ us hl => match us, hl with | [_, _], _ => rfl
  have m17 := PySem.W.mg_of X G a17
  have F18 := fun_mk (st := s_check_rules) l18 c18 k18
  have b18 := F18.binds (ps := ["table", "rules"]) fun _ _ _ _ _ _ us hl => match us, hl with | [_, _], _ => rfl
  have m18 := PySem.W.mg_of X G a18
  have F19 := fun_mk (st := s_wrong_part_languages) l19 c19 k19
  have b19 := F19.binds (ps := ["table", "rule"]) fun _ _ _ _ _ _ us hl => match us, hl with | [_, _], _ => rfl
  have m19 := PySem.W.mg_of X G a19
  have F20 := fun_mk (st := s_check_pass) l20 c20 k20
  have b20 := F20.binds (ps := ["source", "target", "rows"]) fun _ _ _ _ _ _ us hl => match us, hl with | [_, _, _], _ => rfl
  have m20 := PySem.W.mg_of X G a20
  have F21 := fun_mk (st := s_wrong_part_passes) l21 c21 k21
  have b21 := F21.binds (ps := ["constructor", "numbers", "row"]) fun _ _ _ _ _ _ us hl => match us, hl with | [_, _, _], _ => rfl
  have m21 := PySem.W.mg_of X G a21
  have F22 := fun_mk (st := s_are_parameters) l22 c22 k22
  have b22 := F22.binds (ps := ["parameters", "many"]) fun _ _ _ _ _ _ us hl => match us, hl with | [_, _], _ => rfl
  have m22 := PySem.W.mg_of X G a22
  have F23 := fun_mk (st := s_has_right_head) l23 c23 k23
  have b23 := F23.binds (ps := ["numbers", "part"]) fun _ _ _ _ _ _ us hl => match us, hl with | [_, _], _ => rfl
  have m23 := PySem.W.mg_of X G a23
  have F24 := fun_mk (st := s_templates_of) l24 c24 k24
  have b24 := F24.binds (ps := ["rows"]) fun _ _ _ _ _ _ us hl => match us, hl with | [_], _ => rfl
  have m24 := PySem.W.mg_of X G a24
  have F25 := fun_mk (st := s_translate) l25 c25 k25
  have b25 := F25.binds (ps := ["rows", "term"]) fun _ _ _ _ _ _ us hl => match us, hl with | [_, _], _ => rfl
  have m25 := PySem.W.mg_of X G a25
  have F26 := fun_mk (st := s_law_pool) l26 c26 k26
  have b26 := F26.binds (ps := ["script"]) fun _ _ _ _ _ _ us hl => match us, hl with | [_], _ => rfl
  have m26 := PySem.W.mg_of X G a26
  have F27 := fun_mk (st := s_law_take) l27 c27 k27
  have b27 := F27.binds (ps := ["pool", "many"]) fun _ _ _ _ _ _ us hl => match us, hl with | [_, _], _ => rfl
  have m27 := PySem.W.mg_of X G a27
  have F28 := fun_mk (st := s_law_word) l28 c28 k28
  have b28 := F28.binds (ps := ["pool", "k", "shift"]) fun _ _ _ _ _ _ us hl => match us, hl with | [_, _, _], _ => rfl
  have m28 := PySem.W.mg_of X G a28
  have F29 := fun_mk (st := s_law_places) l29 c29 k29
  have b29 := F29.binds (ps := ["pool", "many"]) fun _ _ _ _ _ _ us hl => match us, hl with | [_, _], _ => rfl
  have m29 := PySem.W.mg_of X G a29
  have F30 := fun_mk (st := s_law_constructors) l30 c30 k30
  have b30 := F30.binds (ps := ["pool"]) fun _ _ _ _ _ _ us hl => match us, hl with | [_], _ => rfl
  have m30 := PySem.W.mg_of X G a30
  have F31 := fun_mk (st := s_law_atom) l31 c31 k31
  have b31 := F31.binds (ps := ["pool"]) fun _ _ _ _ _ _ us hl => match us, hl with | [_], _ => rfl
  have m31 := PySem.W.mg_of X G a31
  have F32 := fun_mk (st := s_law_term) l32 c32 k32
  have b32 := F32.binds (ps := ["pool", "constructors", "deep", "open_words"]) fun _ _ _ _ _ _ us hl => match us, hl with | [_, _, _, _], _ => rfl
  have m32 := PySem.W.mg_of X G a32
  have F33 := fun_mk (st := s_law_filled) l33 c33 k33
  have b33 := F33.binds (ps := ["term", "table"]) fun _ _ _ _ _ _ us hl => match us, hl with | [_, _], _ => rfl
  have m33 := PySem.W.mg_of X G a33
  have F34 := fun_mk (st := s_law_translated) l34 c34 k34
  have b34 := F34.binds (ps := ["rows", "term"]) fun _ _ _ _ _ _ us hl => match us, hl with | [_, _], _ => rfl
  have m34 := PySem.W.mg_of X G a34
  have F35 := fun_mk (st := s_law_size) l35 c35 k35
  have b35 := F35.binds (ps := ["term"]) fun _ _ _ _ _ _ us hl => match us, hl with | [_], _ => rfl
  have m35 := PySem.W.mg_of X G a35
  have F36 := fun_mk (st := s_law_is_integer) l36 c36 k36
  have b36 := F36.binds (ps := ["actual"]) fun _ _ _ _ _ _ us hl => match us, hl with | [_], _ => rfl
  have m36 := PySem.W.mg_of X G a36
  have F37 := fun_mk (st := s_law_same) l37 c37 k37
  have b37 := F37.binds (ps := ["actual", "due"]) fun _ _ _ _ _ _ us hl => match us, hl with | [_, _], _ => rfl
  have m37 := PySem.W.mg_of X G a37
  have F38 := fun_mk (st := s_law_cut) l38 c38 k38
  have b38 := F38.binds (ps := ["term", "most"]) fun _ _ _ _ _ _ us hl => match us, hl with | [_, _], _ => rfl
  have m38 := PySem.W.mg_of X G a38
  have F39 := fun_mk (st := s_law_shape) l39 c39 k39
  have b39 := F39.binds (ps := ["constructors", "name"]) fun _ _ _ _ _ _ us hl => match us, hl with | [_, _], _ => rfl
  have m39 := PySem.W.mg_of X G a39
  have F40 := fun_mk (st := s_law_is_value) l40 c40 k40
  have b40 := F40.binds (ps := ["constructors", "term"]) fun _ _ _ _ _ _ us hl => match us, hl with | [_, _], _ => rfl
  have m40 := PySem.W.mg_of X G a40
  have F41 := fun_mk (st := s_law_inner) l41 c41 k41
  have b41 := F41.binds (ps := ["constructors", "term"]) fun _ _ _ _ _ _ us hl => match us, hl with | [_, _], _ => rfl
  have m41 := PySem.W.mg_of X G a41
  have F42 := fun_mk (st := s_law_standing) l42 c42 k42
  have b42 := F42.binds (ps := ["constructors", "term"]) fun _ _ _ _ _ _ us hl => match us, hl with | [_, _], _ => rfl
  have m42 := PySem.W.mg_of X G a42
  have F43 := fun_mk (st := s_law_comes_to) l43 c43 k43
  have b43 := F43.binds (ps := ["constructors", "term", "wanted"]) fun _ _ _ _ _ _ us hl => match us, hl with | [_, _, _], _ => rfl
  have m43 := PySem.W.mg_of X G a43
  have F44 := fun_mk (st := s_law_order) l44 c44 k44
  have b44 := F44.binds (ps := ["pool", "many"]) fun _ _ _ _ _ _ us hl => match us, hl with | [_, _], _ => rfl
  have m44 := PySem.W.mg_of X G a44
  have F45 := fun_mk (st := s_law_target) l45 c45 k45
  have b45 := F45.binds (ps := ["pool", "constructors"]) fun _ _ _ _ _ _ us hl => match us, hl with | [_, _], _ => rfl
  have m45 := PySem.W.mg_of X G a45
  have F46 := fun_mk (st := s_law_exchanged) l46 c46 k46
  have b46 := F46.binds (ps := ["constructors", "rows"]) fun _ _ _ _ _ _ us hl => match us, hl with | [_, _], _ => rfl
  have m46 := PySem.W.mg_of X G a46
  have F47 := fun_mk (st := s_law_program) l47 c47 k47
  have b47 := F47.binds (ps := ["pool", "constructors", "deep"]) fun _ _ _ _ _ _ us hl => match us, hl with | [_, _, _], _ => rfl
  have m47 := PySem.W.mg_of X G a47
  have F48 := fun_mk (st := s_law_atoms_in_maps) l48 c48 k48
  have b48 := F48.binds (ps := ["pool", "term"]) fun _ _ _ _ _ _ us hl => match us, hl with | [_, _], _ => rfl
  have m48 := PySem.W.mg_of X G a48
  have F49 := fun_mk (st := s_law) l49 c49 k49
  have y_len := PySem.W.mg_none_of X G z_len
  have y_int := PySem.W.mg_none_of X G z_int
  have y_range := PySem.W.mg_none_of X G z_range
  have y_min := PySem.W.mg_none_of X G z_min
  have y_str := PySem.W.mg_none_of X G z_str
  have y_tuple := PySem.W.mg_none_of X G z_tuple
  have y_sorted := PySem.W.mg_none_of X G z_sorted
  have y_isinstance := PySem.W.mg_none_of X G z_isinstance
  have y_any := PySem.W.mg_none_of X G z_any
  have y_all := PySem.W.mg_none_of X G z_all
  have y_list := PySem.W.mg_none_of X G z_list
  have y_bool := PySem.W.mg_none_of X G z_bool
  have y_enumerate := PySem.W.mg_none_of X G z_enumerate
  have y_sum := PySem.W.mg_none_of X G z_sum
  have y_zip := PySem.W.mg_none_of X G z_zip
  have y_reversed := PySem.W.mg_none_of X G z_reversed
  have y_dict := PySem.W.mg_none_of X G z_dict
  have yi0 : ∃ t, mg _ = some (.int _ t) := ⟨_, PySem.W.mg_of X G gi0⟩
  have yi1 : ∃ t, mg _ = some (.int _ t) := ⟨_, PySem.W.mg_of X G gi1⟩
  have yi2 : ∃ t, mg _ = some (.int _ t) := ⟨_, PySem.W.mg_of X G gi2⟩
  have yi3 : ∃ t, mg _ = some (.int _ t) := ⟨_, PySem.W.mg_of X G gi3⟩
  have yi4 : ∃ t, mg _ = some (.int _ t) := ⟨_, PySem.W.mg_of X G gi4⟩
  have yi5 : ∃ t, mg _ = some (.int _ t) := ⟨_, PySem.W.mg_of X G gi5⟩
  have yz0 : ∃ t, mg _ = some (.str _ t) := ⟨_, PySem.W.mg_of X G gz0⟩
  have yz1 : ∃ t, mg _ = some (.str _ t) := ⟨_, PySem.W.mg_of X G gz1⟩
  have ytaF := PySem.W.mg_of X G gtaF
  have yqaF : ∀ H, SqT K H aF [V.str "get", V.str "set", V.str "plus", V.str "minus"] := fun H => .inr ⟨_, _, _, ltaF, rfl, rfl, small (by show 4 ≤ _; decide), .cons ⟨_, rfl⟩ (.cons ⟨_, rfl⟩ (.cons ⟨_, rfl⟩ (.cons ⟨_, rfl⟩ (.nil))))⟩
  have ytaR := PySem.W.mg_of X G gtaR
  have yqaR : ∀ H, SqT K H aR [V.str "get", V.str "set", V.str "plus", V.str "minus", V.str "new", V.str "read", V.str "write", V.str "put"] := fun H => .inr ⟨_, _, _, ltaR, rfl, rfl, small (by show 8 ≤ _; decide), .cons ⟨_, rfl⟩ (.cons ⟨_, rfl⟩ (.cons ⟨_, rfl⟩ (.cons ⟨_, rfl⟩ (.cons ⟨_, rfl⟩ (.cons ⟨_, rfl⟩ (.cons ⟨_, rfl⟩ (.cons ⟨_, rfl⟩ (.nil))))))))⟩
  have ytaL := PySem.W.mg_of X G gtaL
  have yqaL : ∀ H, SqT K H aL [V.str "int", V.str "name", V.str "addr", V.str "meta"] := fun H => .inr ⟨_, _, _, ltaL, rfl, rfl, small (by show 4 ≤ _; decide), .cons ⟨_, rfl⟩ (.cons ⟨_, rfl⟩ (.cons ⟨_, rfl⟩ (.cons ⟨_, rfl⟩ (.nil))))⟩
  refine ⟨PySem.W.fnOf "law" "law" (defArgs s_law) (defBody s_law) (defScope s_law) .none kV49 dc49 pm49 an49 cd49 ct49, fun s v => .of_eq rfl, fun base _ _ => ?_⟩
  have FM0 := fun_mk (st := s_Language___init__) lM0 cM0 kM0
  have bM0 := FM0.binds (ps := ["self", "constructors", "rules"]) fun _ _ _ _ _ _ us hl => match us, hl with | [_, _, _], _ => rfl
  have FM1 := fun_mk (st := s_Language_constructor) lM1 cM1 kM1
  have bM1 := FM1.binds (ps := ["self", "name"]) fun _ _ _ _ _ _ us hl => match us, hl with | [_, _], _ => rfl
  have FM2 := fun_mk (st := s_Knowledge___init__) lM2 cM2 kM2
  have bM2 := FM2.binds (ps := ["self"]) fun _ _ _ _ _ _ us hl => match us, hl with | [_], _ => rfl
  have FM3 := fun_mk (st := s_Knowledge__twin) lM3 cM3 kM3
  have bM3 := FM3.binds (ps := ["self"]) fun _ _ _ _ _ _ us hl => match us, hl with | [_], _ => rfl
  have FM4 := fun_mk (st := s_Knowledge_fresh) lM4 cM4 kM4
  have bM4 := FM4.binds (ps := ["self", "many"]) fun _ _ _ _ _ _ us hl => match us, hl with | [_, _], _ => rfl
  have FM5 := fun_mk (st := s_Knowledge_with_worth) lM5 cM5 kM5
  have bM5 := FM5.binds (ps := ["self", "u", "is_value"]) fun _ _ _ _ _ _ us hl => match us, hl with | [_, _, _], _ => rfl
  have FM6 := fun_mk (st := s_Knowledge_looked) lM6 cM6 kM6
  have bM6 := FM6.binds (ps := ["self", "term"]) fun _ _ _ _ _ _ us hl => match us, hl with | [_, _], _ => rfl
  have T : Txt K mg := ⟨y_len, y_int, y_range, y_min, y_str, y_tuple, y_sorted, y_isinstance, y_any, y_all, y_list, y_bool⟩
  have TT : TxtT K mg aF := ⟨T, ytaF, yqaF⟩
  have TZ : TxtZ K mg aF := ⟨TT, y_zip, y_reversed, y_dict, y_sum⟩
  have TP : TxtP K mg aF aR := ⟨TT, y_enumerate, yi0, yi1, yi2, yi3, yz0, yz1, ytaR, yqaR⟩
  have TL : TxtL K mg aF aR aL := ⟨TP, ytaL, yqaL⟩
  have TX : TxtX K mg aF CL := ⟨TZ, yi4, yi5, PySem.W.mg_of X G aCL, xL, kL, bL, tL, exm_self bL iL tL sL⟩
  have XN : LTx K CN := ⟨⟨pgCN, hdCN, poCN, saCN⟩, nN0, nN1, nN2⟩
  have XK : KTx K CK := ⟨⟨pgCK, hdCK, poCK, saCK⟩, nK0, nK1, nK2, nK3, nK4, nK5, nK6⟩
  have take0 : C8.Cal l.prog w K mg base 0 "_law_take" (spTake 0) [] := cal_mk (none_ok (fun vs H Q E h => by obtain ⟨_, _, _, _, _, _, _, _, h, _⟩ := h; omega)) m27 k27 b27
  have take1 : C8.Cal l.prog w K mg base 1 "_law_take" (spTake 1) [] := cal_mk (ok_take F27 T take0) m27 k27 b27
  have take : C8.Cal l.prog w K mg base 2 "_law_take" (spTake 2) [] := cal_mk (ok_take F27 T take1) m27 k27 b27
  have pool : C8.Cal l.prog w K mg base 1 "_law_pool" (spPool K) [] := cal_mk (ok_pool F26) m26 k26 b26
  have isword : C8.Cal l.prog w K mg base 1 "is_word" (spWord) [] := cal_mk (ok_word F1 TP) m1 k1 b1
  have iswhole : C8.Cal l.prog w K mg base 1 "is_whole" (spWhole) [] := cal_mk (ok_whole F2 TP) m2 k2 b2
  have kidsV : C8.Cal l.prog w K mg base 1 "children" (spKidsV K) [] := cal_mk (ok_kidsV F3 TT) m3 k3 b3
  have kids := kids_of kidsV
  have parts : PKL.CalGE l.prog w K mg base 2 "parts_of" (spPg K) := ⟨_, _, _, ok_partsG F6 kids, m6, k6, b6⟩
  have pl1 : C8.Cal l.prog w K mg base 2 "_are_places" (spPl1 K) [] := cal_mk (ok_pl1 F17 TP iswhole) m17 k17 b17
  have con1 : C8.Cal l.prog w K mg base 3 "wrong_part_constructors" (spCon1 K) [] := cal_mk (ok_con1 F16 TP isword iswhole pl1) m16 k16 b16
  have chk1 : C8.Cal l.prog w K mg base 4 "check_constructors" (spChk1 K) [] := cal_mk (ok_chk1 F15 TP con1) m15 k15 b15
  have wpl : C8.Cal l.prog w K mg base 1 "wrong_part_languages" (spNo) [] := cal_mk (none_ok (fun vs H Q E h => h)) m19 k19 b19
  have rules0 : C8.Cal l.prog w K mg base 2 "_check_rules" (spRules0 K) [] := cal_mk (ok_rules0 F18 TP wpl) m18 k18 b18
  have ML : CalC l.prog w K mg base 5 "Language" CN (spLInit K CN) := ⟨PySem.W.mg_of X G nN, _, _, _, ⟨mkCN, aM0, iM0, kcCN⟩, ok_linit FM0 TP XN chk1 rules0, bM0⟩
  have ctor : CalQ l.prog w K mg base 1 CN "constructor" (spCtor K CN) := ⟨XN.cl, _, _, _, ⟨aM1, iM1, kM1⟩, ok_ctor FM1 XN, bM1⟩
  have MK : CalC l.prog w K mg base 1 "Knowledge" CK (spKInit K CK) := ⟨PySem.W.mg_of X G nK, _, _, _, ⟨mkCK, aM2, iM2, kcCK⟩, ok_kinit FM2 XK, bM2⟩
  have twin : CalQ l.prog w K mg base 3 CK "_twin" (spTwin K CK) := ⟨XK.cl, _, _, _, ⟨aM3, iM3, kM3⟩, ok_twin FM3 TZ XK MK, bM3⟩
  have fresh : CalQ l.prog w K mg base 4 CK "fresh" (spFresh K CK) := ⟨XK.cl, _, _, _, ⟨aM4, iM4, kM4⟩, ok_fresh FM4 TZ XK twin, bM4⟩
  have withw : CalQ l.prog w K mg base 4 CK "with_worth" (spWith K CK) := ⟨XK.cl, _, _, _, ⟨aM5, iM5, kM5⟩, ok_with FM5 XK twin, bM5⟩
  have looked : CalQ l.prog w K mg base 1 CK "looked" (spLook K CK) := ⟨XK.cl, _, _, _, ⟨aM6, iM6, kM6⟩, ok_looked FM6 T XK, bM6⟩
  have integ : C8.Cal l.prog w K mg base 1 "integer" (spInteger K) [] := cal_mk (ok_integer F7) m7 k7 b7
  have syp : C8.Cal l.prog w K mg base 2 "_symbolic_part" (spSyp K) [] := cal_mk (ok_syp F8 TZ integ) m8 k8 b8
  have sym : C8.Cal l.prog w K mg base 6 "symbolic" (spSym K) [] := cal_mk (ok_sym F9 TZ syp kids parts) m9 k9 b9
  have come : C8.Cal l.prog w K mg base 2 "_come_to" (spCome K CK) [] := cal_mk (ok_come F11 T XK looked) m11 k11 b11
  have way : C8.Cal l.prog w K mg base 2 "_way_through" (spWay K CN) [] := cal_mk (ok_way F12 TZ ctor) m12 k12 b12
  have place : C8.Cal l.prog w K mg base 3 "place_of" (spPlace K CN CK) [] := cal_mk (ok_place F10 TZ ctor come way) m10 k10 b10
  have fof : C8.Cal l.prog w K mg base 7 "_faults_of" (spFof K CN) [] := cal_mk (ok_fof F14 TP XK MK fresh withw sym place) m14 k14 b14
  have flt : C8.Cal l.prog w K mg base 8 "faults" (spFlt K CN) [] := cal_mk (ok_flt F13 TZ XN fof) m13 k13 b13
  have pars : C8.Cal l.prog w K mg base 2 "_are_parameters" (spPars K) [] := cal_mk (ok_pars F22 TL isword) m22 k22 b22
  have head : C8.Cal l.prog w K mg base 1 "_has_right_head" (spHead K) [] := cal_mk (ok_head F23 TL) m23 k23 b23
  have wrong : C8.Cal l.prog w K mg base 6 "wrong_part_passes" (spWrong K) [] := cal_mk (ok_wrong F21 TL pars head parts) m21 k21 b21
  have check : C8.Cal l.prog w K mg base 7 "check_pass" (spCheckP K CN) [] := cal_mk (ok_checkP F20 TL XN wrong) m20 k20 b20
  have reb : C8.Cal l.prog w K mg base 1 "rebuild" (spRebuild K) [] := cal_mk (ok_rebuild F4 TZ) m4 k4 b4
  have asm : C8.Cal l.prog w K mg base 2 "assembled" (spAsm K) [] := cal_mk (ok_asm F5 TZ reb) m5 k5 b5
  have tpl : C8.Cal l.prog w K mg base 1 "templates_of" (spTpl K) [] := cal_mk (ok_tpl F24 TZ) m24 k24 b24
  have trans : CalR l.prog w K mg base 3 "translate" (spTrans K CL) := ⟨_, _, _, ok_trans F25 TX kids asm tpl, m25, k25, b25⟩
  have word : C8.Cal l.prog w K mg base 3 "_law_word" (spLWord) [] := cal_mk (ok_lword F28 T take) m28 k28 b28
  have places : C8.Cal l.prog w K mg base 3 "_law_places" (spPlaces K) [] := cal_mk (ok_places F29 T take) m29 k29 b29
  have cons : C8.Cal l.prog w K mg base 4 "_law_constructors" (spCons K) [] := cal_mk (ok_cons F30 T take word places) m30 k30 b30
  have atom : C8.Cal l.prog w K mg base 4 "_law_atom" (spAtom K) [] := cal_mk (ok_atom F31 take word) m31 k31 b31
  have terms : ∀ n : Nat, C8.Cal l.prog w K mg base (n + 4) "_law_term" (spTerm K n) [] := fun n => by
    induction n with
    | zero => exact cal_mk (none_ok (fun vs H Q E h => by obtain ⟨_, _, _, _, _, _, _, _, _, h, _⟩ := h; omega)) m32 k32 b32
    | succ n ih => exact cal_mk (ok_term F32 T take word atom ih) m32 k32 b32
  have fills : ∀ n : Nat, C8.Cal l.prog w K mg base (n) "_law_filled" (spFil K n) [] := fun n => by
    induction n with
    | zero => exact cal_mk (none_ok (fun vs H Q E h => by obtain ⟨_, _, t, _, _, _, _, _, _, _, h, _⟩ := h; have := t.ht_pos; omega)) m33 k33 b33
    | succ n ih => exact cal_mk (ok_fil F33 T ih) m33 k33 b33
  have tls : ∀ n : Nat, C8.Cal l.prog w K mg base (n + 13) "_law_translated" (spTl K n) [] := fun n => by
    induction n with
    | zero => exact cal_mk (none_ok (fun vs H Q E h => by obtain ⟨_, _, _, t, _, _, _, _, _, _, _, h, _⟩ := h; have := t.ht_pos; omega)) m34 k34 b34
    | succ n ih => exact cal_mk (ok_tl F34 T (fills 13) ih) m34 k34 b34
  have szs : ∀ n : Nat, C8.Cal l.prog w K mg base (n) "_law_size" (spSz K n) [] := fun n => by
    induction n with
    | zero => exact cal_mk (none_ok (fun vs H Q E h => by obtain ⟨_, t, _, _, _, h, _⟩ := h; have := t.ht_pos; omega)) m35 k35 b35
    | succ n ih => exact cal_mk (ok_sz F35 T y_sum ih) m35 k35 b35
  have isint : C8.Cal l.prog w K mg base 1 "_law_is_integer" (spInt K) [] := cal_mk (ok_isint F36 T) m36 k36 b36
  have sames : ∀ n : Nat, C8.Cal l.prog w K mg base (n + 1) "_law_same" (spSame K n) [] := fun n => by
    induction n with
    | zero => exact cal_mk (none_ok (fun vs H Q E h => by obtain ⟨_, _, _, _, _, _, _, h, _⟩ := h; omega)) m37 k37 b37
    | succ n ih => exact cal_mk (ok_same F37 T isint ih) m37 k37 b37
  have cut : C8.Cal l.prog w K mg base 101 "_law_cut" (spCut K) [] := cal_mk (ok_cut F38 (szs 100)) m38 k38 b38
  have shape : C8.Cal l.prog w K mg base 1 "_law_shape" (spShape K) [] := cal_mk (ok_shape F39) m39 k39 b39
  have isvs : ∀ n : Nat, C8.Cal l.prog w K mg base (n + 1) "_law_is_value" (spIsV K n) [] := fun n => by
    induction n with
    | zero => exact cal_mk (none_ok (fun vs H Q E h => by obtain ⟨_, _, _, _, t, _, _, _, _, _, h, _⟩ := h; have := t.ht_pos; omega)) m40 k40 b40
    | succ n ih => exact cal_mk (ok_isv F40 T shape ih) m40 k40 b40
  have inner : C8.Cal l.prog w K mg base 14 "_law_inner" (spInn K 12) [] := cal_mk (ok_inn (j := 0) F41 shape (isvs 12)) m41 k41 b41
  have stand : C8.Cal l.prog w K mg base 15 "_law_standing" (spStd K 12) [] := cal_mk (ok_std F42 T inner) m42 k42 b42
  have comes : C8.Cal l.prog w K mg base 100 "_law_comes_to" (spCms K 12) [] := cal_mk (ok_cms F43 T inner (sames 98) (by decide)) m43 k43 b43
  have order : C8.Cal l.prog w K mg base 3 "_law_order" (spOrd K) [] := cal_mk (ok_ord F44 T take) m44 k44 b44
  have tgt : C8.Cal l.prog w K mg base 4 "_law_target" (spTgt K) [] := cal_mk (ok_tgt F45 T take word order) m45 k45 b45
  have exc : C8.Cal l.prog w K mg base 13 "_law_exchanged" (spExc K) [] := cal_mk (ok_exc F46 T (fills 12)) m46 k46 b46
  have aims : ∀ n : Nat, C8.Cal l.prog w K mg base (n + 4) "_law_atoms_in_maps" (spAim K n) [] := fun n => by
    induction n with
    | zero => exact cal_mk (none_ok (fun vs H Q E h => by obtain ⟨_, _, _, _, t, _, _, _, _, h, _⟩ := h; have := t.ht_pos; omega)) m48 k48 b48
    | succ n ih => exact cal_mk (ok_aim F48 T atom ih) m48 k48 b48
  have prg : C8.Cal l.prog w K mg base 10 "_law_program" (spPrg K) [] := cal_mk (ok_prg F47 (terms 5) (aims 5)) m47 k47 b47
  exact ok_law F49 TP XN ML pool cons tgt check flt (sames 98) exc prg cut trans (tls 10) (isvs 12) stand comes
theorem walk {l : PySem.W.OpenLaw} {q : Program} {loose : List Str} {XP : (Str → Option Value) → Heap → Prop} {YP : World → Heap → Prop} {d : DefRec} {K : Params → PySem.W.Frag} (hn : l.most = some 63) (hdf : d.params.defaults = [])
    (hY : ∀ (w : World) (h : Heap), YP w h → (K w.params).In h)
    (F : ∀ (w : World) (mg : Str → Option Value) (fa : Addr) (h : Heap), (K w.params).In h → h.Ns mainGlobals mg → mg d.name = some (.ref fa) →
      ∃ fd : FuncData, (∀ (s : Shared) (u : Value), BindsTo s fd ⟨[u], []⟩ [("script", u)]) ∧ ∀ base : Heap, (K w.params).In base → base.Ns mainGlobals mg → FnOk l.prog w (K w.params) mg base CX0 110 fa fd ["script"] (spLaw (K w.params))) :
    PySem.W.WalkO q loose XP YP l.row.toRowW d [] (fun f vs => PySem.call f vs) :=
  L2.walk_of (n := 63) (k := 110) (x := "script") (CX := fun _ => CX0) (sp := fun w => spLaw (K w.params)) hn (by decide) hdf ⟨rfl, by decide, by decide⟩ hY F (fun _ _ a ns hl _ hS => ⟨a, ns, rfl, hS, hl, fun _ => rfl⟩) fun _ _ _ _ _ z => z
end PK
open PySem PySem.W PyProof.Rows in
set_option maxRecDepth 100000 in
set_option maxHeartbeats 0 in
theorem PySem.Challenge.cw_passproven_k44_whole_passes_without_faul_holds : PySem.Challenge.rw_passproven_k44_whole_passes_without_faul.Holds := by
  w_on; o_law; k_head; (case hw => w_witness2)
  k_fill
  refine PK.walk (l := PySem.Challenge.rw_passproven_k44_whole_passes_without_faul) rfl rfl (fun w h Y => PySem.W.kIn_of Y) ?F
  case F =>
    intro w mg fa h KX G hmg
    refine' PK.all_mk KX G hmg ?a1 ?l1 ?c1 ?k1 ?a2 ?l2 ?c2 ?k2 ?a3 ?l3 ?c3 ?k3 ?a4 ?l4 ?c4 ?k4 ?a5 ?l5 ?c5 ?k5 ?a6 ?l6 ?c6 ?k6 ?a7 ?l7 ?c7 ?k7 ?a8 ?l8 ?c8 ?k8 ?a9 ?l9 ?c9 ?k9 ?a10 ?l10 ?c10 ?k10 ?a11 ?l11 ?c11 ?k11 ?a12 ?l12 ?c12 ?k12 ?a13 ?l13 ?c13 ?k13 ?a14 ?l14 ?c14 ?k14 ?a15 ?l15 ?c15 ?k15 ?a16 ?l16 ?c16 ?k16 ?a17 ?l17 ?c17 ?k17 ?a18 ?l18 ?c18 ?k18 ?a19 ?l19 ?c19 ?k19 ?a20 ?l20 ?c20 ?k20 ?a21 ?l21 ?c21 ?k21 ?a22 ?l22 ?c22 ?k22 ?a23 ?l23 ?c23 ?k23 ?a24 ?l24 ?c24 ?k24 ?a25 ?l25 ?c25 ?k25 ?a26 ?l26 ?c26 ?k26 ?a27 ?l27 ?c27 ?k27 ?a28 ?l28 ?c28 ?k28 ?a29 ?l29 ?c29 ?k29 ?a30 ?l30 ?c30 ?k30 ?a31 ?l31 ?c31 ?k31 ?a32 ?l32 ?c32 ?k32 ?a33 ?l33 ?c33 ?k33 ?a34 ?l34 ?c34 ?k34 ?a35 ?l35 ?c35 ?k35 ?a36 ?l36 ?c36 ?k36 ?a37 ?l37 ?c37 ?k37 ?a38 ?l38 ?c38 ?k38 ?a39 ?l39 ?c39 ?k39 ?a40 ?l40 ?c40 ?k40 ?a41 ?l41 ?c41 ?k41 ?a42 ?l42 ?c42 ?k42 ?a43 ?l43 ?c43 ?k43 ?a44 ?l44 ?c44 ?k44 ?a45 ?l45 ?c45 ?k45 ?a46 ?l46 ?c46 ?k46 ?a47 ?l47 ?c47 ?k47 ?a48 ?l48 ?c48 ?k48 ?a49 ?l49 ?c49 ?k49 ?z_len ?z_int ?z_range ?z_min ?z_str ?z_tuple ?z_sorted ?z_isinstance ?z_any ?z_all ?z_list ?z_bool ?z_enumerate ?z_sum ?z_zip ?z_reversed ?z_dict ?gi0 ?gi1 ?gi2 ?gi3 ?gi4 ?gi5 ?gz0 ?gz1 ?gtaF ?ltaF ?gtaR ?ltaR ?gtaL ?ltaL ?nN ?nK ?aM0 ?iM0 ?lM0 ?cM0 ?kM0 ?aM1 ?iM1 ?lM1 ?cM1 ?kM1 ?aM2 ?iM2 ?lM2 ?cM2 ?kM2 ?aM3 ?iM3 ?lM3 ?cM3 ?kM3 ?aM4 ?iM4 ?lM4 ?cM4 ?kM4 ?aM5 ?iM5 ?lM5 ?cM5 ?kM5 ?aM6 ?iM6 ?lM6 ?cM6 ?kM6 ?pgCN ?hdCN ?poCN ?saCN ?mkCN ?kcCN ?pgCK ?hdCK ?poCK ?saCK ?mkCK ?kcCK ?nN0 ?nN1 ?nN2 ?nK0 ?nK1 ?nK2 ?nK3 ?nK4 ?nK5 ?nK6 ?aCL ?xL ?kL ?bL ?tL ?iL ?sL
    (case a1 => k_is)
    (case l1 => k_is)
    (case c1 => k_is)
    (case k1 => k_is)
    (case a2 => k_is)
    (case l2 => k_is)
    (case c2 => k_is)
    (case k2 => k_is)
    (case a3 => k_is)
    (case l3 => k_is)
    (case c3 => k_is)
    (case k3 => k_is)
    (case a4 => k_is)
    (case l4 => k_is)
    (case c4 => k_is)
    (case k4 => k_is)
    (case a5 => k_is)
    (case l5 => k_is)
    (case c5 => k_is)
    (case k5 => k_is)
    (case a6 => k_is)
    (case l6 => k_is)
    (case c6 => k_is)
    (case k6 => k_is)
    (case a7 => k_is)
    (case l7 => k_is)
    (case c7 => k_is)
    (case k7 => k_is)
    (case a8 => k_is)
    (case l8 => k_is)
    (case c8 => k_is)
    (case k8 => k_is)
    (case a9 => k_is)
    (case l9 => k_is)
    (case c9 => k_is)
    (case k9 => k_is)
    (case a10 => k_is)
    (case l10 => k_is)
    (case c10 => k_is)
    (case k10 => k_is)
    (case a11 => k_is)
    (case l11 => k_is)
    (case c11 => k_is)
    (case k11 => k_is)
    (case a12 => k_is)
    (case l12 => k_is)
    (case c12 => k_is)
    (case k12 => k_is)
    (case a13 => k_is)
    (case l13 => k_is)
    (case c13 => k_is)
    (case k13 => k_is)
    (case a14 => k_is)
    (case l14 => k_is)
    (case c14 => k_is)
    (case k14 => k_is)
    (case a15 => k_is)
    (case l15 => k_is)
    (case c15 => k_is)
    (case k15 => k_is)
    (case a16 => k_is)
    (case l16 => k_is)
    (case c16 => k_is)
    (case k16 => k_is)
    (case a17 => k_is)
    (case l17 => k_is)
    (case c17 => k_is)
    (case k17 => k_is)
    (case a18 => k_is)
    (case l18 => k_is)
    (case c18 => k_is)
    (case k18 => k_is)
    (case a19 => k_is)
    (case l19 => k_is)
    (case c19 => k_is)
    (case k19 => k_is)
    (case a20 => k_is)
    (case l20 => k_is)
    (case c20 => k_is)
    (case k20 => k_is)
    (case a21 => k_is)
    (case l21 => k_is)
    (case c21 => k_is)
    (case k21 => k_is)
    (case a22 => k_is)
    (case l22 => k_is)
    (case c22 => k_is)
    (case k22 => k_is)
    (case a23 => k_is)
    (case l23 => k_is)
    (case c23 => k_is)
    (case k23 => k_is)
    (case a24 => k_is)
    (case l24 => k_is)
    (case c24 => k_is)
    (case k24 => k_is)
    (case a25 => k_is)
    (case l25 => k_is)
    (case c25 => k_is)
    (case k25 => k_is)
    (case a26 => k_is)
    (case l26 => k_is)
    (case c26 => k_is)
    (case k26 => k_is)
    (case a27 => k_is)
    (case l27 => k_is)
    (case c27 => k_is)
    (case k27 => k_is)
    (case a28 => k_is)
    (case l28 => k_is)
    (case c28 => k_is)
    (case k28 => k_is)
    (case a29 => k_is)
    (case l29 => k_is)
    (case c29 => k_is)
    (case k29 => k_is)
    (case a30 => k_is)
    (case l30 => k_is)
    (case c30 => k_is)
    (case k30 => k_is)
    (case a31 => k_is)
    (case l31 => k_is)
    (case c31 => k_is)
    (case k31 => k_is)
    (case a32 => k_is)
    (case l32 => k_is)
    (case c32 => k_is)
    (case k32 => k_is)
    (case a33 => k_is)
    (case l33 => k_is)
    (case c33 => k_is)
    (case k33 => k_is)
    (case a34 => k_is)
    (case l34 => k_is)
    (case c34 => k_is)
    (case k34 => k_is)
    (case a35 => k_is)
    (case l35 => k_is)
    (case c35 => k_is)
    (case k35 => k_is)
    (case a36 => k_is)
    (case l36 => k_is)
    (case c36 => k_is)
    (case k36 => k_is)
    (case a37 => k_is)
    (case l37 => k_is)
    (case c37 => k_is)
    (case k37 => k_is)
    (case a38 => k_is)
    (case l38 => k_is)
    (case c38 => k_is)
    (case k38 => k_is)
    (case a39 => k_is)
    (case l39 => k_is)
    (case c39 => k_is)
    (case k39 => k_is)
    (case a40 => k_is)
    (case l40 => k_is)
    (case c40 => k_is)
    (case k40 => k_is)
    (case a41 => k_is)
    (case l41 => k_is)
    (case c41 => k_is)
    (case k41 => k_is)
    (case a42 => k_is)
    (case l42 => k_is)
    (case c42 => k_is)
    (case k42 => k_is)
    (case a43 => k_is)
    (case l43 => k_is)
    (case c43 => k_is)
    (case k43 => k_is)
    (case a44 => k_is)
    (case l44 => k_is)
    (case c44 => k_is)
    (case k44 => k_is)
    (case a45 => k_is)
    (case l45 => k_is)
    (case c45 => k_is)
    (case k45 => k_is)
    (case a46 => k_is)
    (case l46 => k_is)
    (case c46 => k_is)
    (case k46 => k_is)
    (case a47 => k_is)
    (case l47 => k_is)
    (case c47 => k_is)
    (case k47 => k_is)
    (case a48 => k_is)
    (case l48 => k_is)
    (case c48 => k_is)
    (case k48 => k_is)
    (case a49 => k_is)
    (case l49 => k_is)
    (case c49 => k_is)
    (case k49 => k_is)
    (case z_len => k_is)
    (case z_int => k_is)
    (case z_range => k_is)
    (case z_min => k_is)
    (case z_str => k_is)
    (case z_tuple => k_is)
    (case z_sorted => k_is)
    (case z_isinstance => k_is)
    (case z_any => k_is)
    (case z_all => k_is)
    (case z_list => k_is)
    (case z_bool => k_is)
    (case z_enumerate => k_is)
    (case z_sum => k_is)
    (case z_zip => k_is)
    (case z_reversed => k_is)
    (case z_dict => k_is)
    (case gi0 => k_is)
    (case gi1 => k_is)
    (case gi2 => k_is)
    (case gi3 => k_is)
    (case gi4 => k_is)
    (case gi5 => k_is)
    (case gz0 => k_is)
    (case gz1 => k_is)
    (case gtaF => k_is)
    (case ltaF => k_is)
    (case gtaR => k_is)
    (case ltaR => k_is)
    (case gtaL => k_is)
    (case ltaL => k_is)
    (case nN => k_is)
    (case nK => k_is)
    (case aM0 => k_is)
    (case iM0 => k_is)
    (case lM0 => k_is)
    (case cM0 => k_is)
    (case kM0 => k_is)
    (case aM1 => k_is)
    (case iM1 => k_is)
    (case lM1 => k_is)
    (case cM1 => k_is)
    (case kM1 => k_is)
    (case aM2 => k_is)
    (case iM2 => k_is)
    (case lM2 => k_is)
    (case cM2 => k_is)
    (case kM2 => k_is)
    (case aM3 => k_is)
    (case iM3 => k_is)
    (case lM3 => k_is)
    (case cM3 => k_is)
    (case kM3 => k_is)
    (case aM4 => k_is)
    (case iM4 => k_is)
    (case lM4 => k_is)
    (case cM4 => k_is)
    (case kM4 => k_is)
    (case aM5 => k_is)
    (case iM5 => k_is)
    (case lM5 => k_is)
    (case cM5 => k_is)
    (case kM5 => k_is)
    (case aM6 => k_is)
    (case iM6 => k_is)
    (case lM6 => k_is)
    (case cM6 => k_is)
    (case kM6 => k_is)
    (case pgCN => k_is)
    (case hdCN => k_is)
    (case poCN => k_is)
    (case saCN => k_is)
    (case mkCN => k_is)
    (case kcCN => k_is)
    (case pgCK => k_is)
    (case hdCK => k_is)
    (case poCK => k_is)
    (case saCK => k_is)
    (case mkCK => k_is)
    (case kcCK => k_is)
    (case nN0 => k_is)
    (case nN1 => k_is)
    (case nN2 => k_is)
    (case nK0 => k_is)
    (case nK1 => k_is)
    (case nK2 => k_is)
    (case nK3 => k_is)
    (case nK4 => k_is)
    (case nK5 => k_is)
    (case nK6 => k_is)
    (case aCL => k_is)
    (case xL => k_exc)
    (case kL => k_is)
    (case bL => k_is)
    (case tL => k_is)
    (case iL => k_is)
    (case sL => k_is)
#print axioms PySem.Challenge.cw_passproven_k44_whole_passes_without_faul_holds
