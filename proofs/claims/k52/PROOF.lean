import PyProof.Rows.All
import Wide.All
import OpenK.AllK
import Wide.FinOn
import KE.KStateDown
import HandS.Head0
import HandS.Head1
import HandS.Head2
import HandS.HeadEnd
import HandS.HeadHook1
import HandS.HeadHook2
import HandS.Words
import HandS.Codes
import HandS.ForMost
import HandS.Wide
import HandS.IsInst
import HandS.More
import HandS.Conv
import HandS.ForExc
import HandS.ExcInit
import HandS.ExcField
import HandS.TryMany
import KE.GoesEnum
import KE.KExcIs
import HandS.ExcIs
import HandS.Zip
import PyProof.ListNew
import HandS.Walk
import HandS.Style
import HandS.Flow
import PyProof.AttrMissHeap
import HandS.List
import PyProof.EqLayable
import HandS.Comp
import HandS.ExcOwn
import KE.GoesComp
import KE.GoesRaise
import PyProof.NeData
import KE.KxText
import HandS.Star
import HandS.Rev
import HandS.DictComp
import HandS.Deep
import HandS.TupAny
import HandS.TryOnly
import PySem.Challenge.RW_passproven_k52_translated_states
set_option Elab.async false
set_option linter.all false
set_option maxRecDepth 100000
namespace PK
open PySem L2
/-! a head by one run: tests and defs at the given addresses -/
def obsH (ts : List (PySem.W.Frag → Bool)) (fn : List He.FnD) (K : PySem.W.Frag) : He.Al :=
  ((ts.all fun t => t K) && (fn.all fun d => (He.Fa.code d.at_ d.qual).ok K), fn.map fun d => He.fnObs K d.at_)
def SaysH (ts : List (PySem.W.Frag → Bool)) (fn : List He.FnD) (K : PySem.W.Frag) : Prop := obsH ts fn K = He.valE fn
def hookH (as : List Addr) (ts : List (PySem.W.Frag → Bool)) (fn : List He.FnD) : PySem.W.Hook :=
  { α := He.Al, obs := fun s => obsH ts fn (He.frG s.heap.get? as), val := fun _ => He.valE fn, says := fun _ h => ∃ K : PySem.W.Frag, K.In h ∧ SaysH ts fn K,
    of := fun _ _ e => ⟨_, He.frG_in, e⟩, keeps := fun _ _ _ y k => let ⟨K, hK, c⟩ := y; ⟨K, PySem.W.Frag.In.keeps hK k, c⟩ }
def obH (as : List Addr) (ts : List (PySem.W.Frag → Bool)) (fn : List He.FnD) (s : PySem.W.SharedT) : He.Al := obsH ts fn (He.frG (HandSHeadRun.getT s) as)
theorem obH_eq {as : List Addr} {ts : List (PySem.W.Frag → Bool)} {fn : List He.FnD} (s : PySem.W.SharedT) : obH as ts fn s = (hookH as ts fn).obs s.abs := by
  show obsH ts fn (He.frG (HandSHeadRun.getT s) as) = obsH ts fn (He.frG s.abs.heap.get? as)
  rw [show HandSHeadRun.getT s = s.abs.heap.get? from funext (HandSHeadRun.getT_eq s)]
section
variable {ts : List (PySem.W.Frag → Bool)} {fn : List He.FnD} {K : PySem.W.Frag}
theorem SaysH.two (c : SaysH ts fn K) : (∀ t ∈ ts, t K = true) ∧ (∀ d ∈ fn, (He.Fa.code d.at_ d.qual).ok K = true) ∧ fn.map (fun d => He.fnObs K d.at_) = fn.map He.FnD.val := by
  have h1 : ((ts.all fun t => t K) && (fn.all fun d => (He.Fa.code d.at_ d.qual).ok K)) = true := congrArg Prod.fst c
  rw [Bool.and_eq_true, List.all_eq_true, List.all_eq_true] at h1
  exact ⟨h1.1, h1.2, congrArg Prod.snd c⟩
theorem SaysH.fact (c : SaysH ts fn K) (i : Nat) {t : PySem.W.Frag → Bool} (h : ts[i]? = some t) : t K = true := c.two.1 t (List.mem_of_getElem? h)
/-- a def that stands at a -/
theorem SaysH.fnAt (c : SaysH ts fn K) (i : Nat) {d : He.FnD} {a : Addr} (h : fn[i]? = some d) (e : He.fAd K d.at_ = a) :
    ∃ oc od osl kV doc pm an cdv ct, K.lookup a = some ⟨oc, od, .func (PySem.W.fnOf d.name d.qual d.params d.body d.scope .none kV doc pm an cdv ct), osl⟩ ∧ PySem.W.codeIn K cdv d.qual = true := by
  have m : (fn.map fun d => He.fnObs K d.at_)[i]? = (fn.map He.FnD.val)[i]? := by rw [c.two.2.2]
  rw [List.getElem?_map, List.getElem?_map, h] at m
  have z := He.fn_ok (d := d) (Option.some.inj m) (c.two.2.1 d (List.mem_of_getElem? h))
  rw [e] at z
  exact z
theorem ga_at {x : Str} {a : Addr} (e : PySem.W.nsIn K mainGlobals x = some (some (.ref a))) : He.ga K x = a := by unfold He.ga; rw [e]
theorem ma_at {x m : Str} {C a : Addr} (e : PySem.W.nsIn K mainGlobals x = some (some (.ref C))) (e2 : PySem.W.findIn K (.ref C) m = some (some (.ref a))) : He.ma K (He.ga K x) m = a := by
  rw [ga_at e]; unfold He.ma; rw [e2]
theorem tup_at {x : Str} {a : Addr} {vs : List He.Dv} (h : He.tupB K x vs = true) (e : PySem.W.nsIn K mainGlobals x = some (some (.ref a))) (H : Hp) : SqT K H a (vs.map (He.Dv.v K)) := by
  have z := He.tupB_ok h H
  rw [ga_at e] at z
  exact z
end
end PK
namespace PK
open PySem L2
def hTop (i : Nat) : Stmt := PySem.Challenge.pw_passproven_k52_translated_states.main.body.getD i (.Pass ⟨0, 0, 0, 0⟩)
abbrev Rr : PySem.W.OpenRow := PySem.W.OpenLaw.row PySem.Challenge.rw_passproven_k52_translated_states
def hAs_0 : List Addr := [3, 23, 24, 36, 37, 40, 44, 45, 49, 50, 56, 57, 61, 62, 66, 67]
def hAs_1 : List Addr := [71, 72, 78, 79, 83, 84, 90, 91, 95, 96, 102, 103, 109, 110, 116, 117]
def hAs_2 : List Addr := [121, 122, 128, 129, 135, 136, 142, 143, 149, 150, 156, 157, 163, 164, 168, 169]
def hAs_3 : List Addr := [173, 174, 178, 179, 185, 186, 192, 193, 199, 200, 204, 205, 211, 212, 218, 219]
def hAs_4 : List Addr := [225, 226, 232, 233, 239, 240, 246, 247, 251, 252, 256, 257, 261, 262, 266, 267]
def hAs_5 : List Addr := [271, 272, 278, 279, 283, 284, 288, 289, 293, 294, 298, 299, 305, 306, 312, 313]
def hAs_6 : List Addr := [319, 320, 324, 325]
def hAs : List Addr := hAs_0 ++ (hAs_1 ++ (hAs_2 ++ (hAs_3 ++ (hAs_4 ++ (hAs_5 ++ (hAs_6))))))
def hNs_0 : List PySem.Str := ["PassError", "TooLarge", "_FORMS", "children", "rebuild", "assembled", "MOST_PARTS", "MOST_NESTED", "templates_of", "translate", "translated_state", "translate_state", "_law_pool", "_law_take", "_law_words", "_law_number"]
def hNs_1 : List PySem.Str := ["_law_atom", "_law_constructors", "_law_of_kind", "_law_pick", "_law_part", "_law_pattern", "_law_operand", "_law_condition", "_law_conditions", "_law_occurs", "_law_sort", "_law_of_sort", "_law_integer", "_law_map", "_law_set", "_law_worth"]
def hNs_2 : List PySem.Str := ["_law_node", "_law_form", "_law_action", "_law_rule", "_law_language", "_law_own", "_law_ground", "_law_filled", "_law_put", "_law_templated", "_law_translate", "_law_mixed", "_law_renamed", "_law_longer", "_law_same", "_law_image"]
def hNs_3 : List PySem.Str := ["_law_nested", "_law_is_nested", "_law_chain"]
def hNs : List PySem.Str := hNs_0 ++ (hNs_1 ++ (hNs_2 ++ (hNs_3)))
def hTs : List (PySem.W.Frag → Bool) := [
  fun K => decide (PySem.W.nsIn K mainGlobals "children" = some (some (.ref 45))),
  fun K => decide (PySem.W.keepIn K (.ref 45) = true),
  fun K => decide (PySem.W.nsIn K mainGlobals "rebuild" = some (some (.ref 50))),
  fun K => decide (PySem.W.keepIn K (.ref 50) = true),
  fun K => decide (PySem.W.nsIn K mainGlobals "assembled" = some (some (.ref 57))),
  fun K => decide (PySem.W.keepIn K (.ref 57) = true),
  fun K => decide (PySem.W.nsIn K mainGlobals "templates_of" = some (some (.ref 62))),
  fun K => decide (PySem.W.keepIn K (.ref 62) = true),
  fun K => decide (PySem.W.nsIn K mainGlobals "translate" = some (some (.ref 67))),
  fun K => decide (PySem.W.keepIn K (.ref 67) = true),
  fun K => decide (PySem.W.nsIn K mainGlobals "translated_state" = some (some (.ref 72))),
  fun K => decide (PySem.W.keepIn K (.ref 72) = true),
  fun K => decide (PySem.W.nsIn K mainGlobals "translate_state" = some (some (.ref 79))),
  fun K => decide (PySem.W.keepIn K (.ref 79) = true),
  fun K => decide (PySem.W.nsIn K mainGlobals "_law_pool" = some (some (.ref 84))),
  fun K => decide (PySem.W.keepIn K (.ref 84) = true),
  fun K => decide (PySem.W.nsIn K mainGlobals "_law_take" = some (some (.ref 91))),
  fun K => decide (PySem.W.keepIn K (.ref 91) = true),
  fun K => decide (PySem.W.nsIn K mainGlobals "_law_words" = some (some (.ref 96))),
  fun K => decide (PySem.W.keepIn K (.ref 96) = true),
  fun K => decide (PySem.W.nsIn K mainGlobals "_law_number" = some (some (.ref 103))),
  fun K => decide (PySem.W.keepIn K (.ref 103) = true),
  fun K => decide (PySem.W.nsIn K mainGlobals "_law_atom" = some (some (.ref 110))),
  fun K => decide (PySem.W.keepIn K (.ref 110) = true),
  fun K => decide (PySem.W.nsIn K mainGlobals "_law_constructors" = some (some (.ref 117))),
  fun K => decide (PySem.W.keepIn K (.ref 117) = true),
  fun K => decide (PySem.W.nsIn K mainGlobals "_law_of_kind" = some (some (.ref 122))),
  fun K => decide (PySem.W.keepIn K (.ref 122) = true),
  fun K => decide (PySem.W.nsIn K mainGlobals "_law_pick" = some (some (.ref 129))),
  fun K => decide (PySem.W.keepIn K (.ref 129) = true),
  fun K => decide (PySem.W.nsIn K mainGlobals "_law_part" = some (some (.ref 136))),
  fun K => decide (PySem.W.keepIn K (.ref 136) = true),
  fun K => decide (PySem.W.nsIn K mainGlobals "_law_pattern" = some (some (.ref 143))),
  fun K => decide (PySem.W.keepIn K (.ref 143) = true),
  fun K => decide (PySem.W.nsIn K mainGlobals "_law_operand" = some (some (.ref 150))),
  fun K => decide (PySem.W.keepIn K (.ref 150) = true),
  fun K => decide (PySem.W.nsIn K mainGlobals "_law_condition" = some (some (.ref 157))),
  fun K => decide (PySem.W.keepIn K (.ref 157) = true),
  fun K => decide (PySem.W.nsIn K mainGlobals "_law_conditions" = some (some (.ref 164))),
  fun K => decide (PySem.W.keepIn K (.ref 164) = true),
  fun K => decide (PySem.W.nsIn K mainGlobals "_law_occurs" = some (some (.ref 169))),
  fun K => decide (PySem.W.keepIn K (.ref 169) = true),
  fun K => decide (PySem.W.nsIn K mainGlobals "_law_sort" = some (some (.ref 174))),
  fun K => decide (PySem.W.keepIn K (.ref 174) = true),
  fun K => decide (PySem.W.nsIn K mainGlobals "_law_of_sort" = some (some (.ref 179))),
  fun K => decide (PySem.W.keepIn K (.ref 179) = true),
  fun K => decide (PySem.W.nsIn K mainGlobals "_law_integer" = some (some (.ref 186))),
  fun K => decide (PySem.W.keepIn K (.ref 186) = true),
  fun K => decide (PySem.W.nsIn K mainGlobals "_law_map" = some (some (.ref 193))),
  fun K => decide (PySem.W.keepIn K (.ref 193) = true),
  fun K => decide (PySem.W.nsIn K mainGlobals "_law_set" = some (some (.ref 200))),
  fun K => decide (PySem.W.keepIn K (.ref 200) = true),
  fun K => decide (PySem.W.nsIn K mainGlobals "_law_worth" = some (some (.ref 205))),
  fun K => decide (PySem.W.keepIn K (.ref 205) = true),
  fun K => decide (PySem.W.nsIn K mainGlobals "_law_node" = some (some (.ref 212))),
  fun K => decide (PySem.W.keepIn K (.ref 212) = true),
  fun K => decide (PySem.W.nsIn K mainGlobals "_law_form" = some (some (.ref 219))),
  fun K => decide (PySem.W.keepIn K (.ref 219) = true),
  fun K => decide (PySem.W.nsIn K mainGlobals "_law_action" = some (some (.ref 226))),
  fun K => decide (PySem.W.keepIn K (.ref 226) = true),
  fun K => decide (PySem.W.nsIn K mainGlobals "_law_rule" = some (some (.ref 233))),
  fun K => decide (PySem.W.keepIn K (.ref 233) = true),
  fun K => decide (PySem.W.nsIn K mainGlobals "_law_language" = some (some (.ref 240))),
  fun K => decide (PySem.W.keepIn K (.ref 240) = true),
  fun K => decide (PySem.W.nsIn K mainGlobals "_law_own" = some (some (.ref 247))),
  fun K => decide (PySem.W.keepIn K (.ref 247) = true),
  fun K => decide (PySem.W.nsIn K mainGlobals "_law_ground" = some (some (.ref 252))),
  fun K => decide (PySem.W.keepIn K (.ref 252) = true),
  fun K => decide (PySem.W.nsIn K mainGlobals "_law_filled" = some (some (.ref 257))),
  fun K => decide (PySem.W.keepIn K (.ref 257) = true),
  fun K => decide (PySem.W.nsIn K mainGlobals "_law_put" = some (some (.ref 262))),
  fun K => decide (PySem.W.keepIn K (.ref 262) = true),
  fun K => decide (PySem.W.nsIn K mainGlobals "_law_templated" = some (some (.ref 267))),
  fun K => decide (PySem.W.keepIn K (.ref 267) = true),
  fun K => decide (PySem.W.nsIn K mainGlobals "_law_translate" = some (some (.ref 272))),
  fun K => decide (PySem.W.keepIn K (.ref 272) = true),
  fun K => decide (PySem.W.nsIn K mainGlobals "_law_mixed" = some (some (.ref 279))),
  fun K => decide (PySem.W.keepIn K (.ref 279) = true),
  fun K => decide (PySem.W.nsIn K mainGlobals "_law_renamed" = some (some (.ref 284))),
  fun K => decide (PySem.W.keepIn K (.ref 284) = true),
  fun K => decide (PySem.W.nsIn K mainGlobals "_law_longer" = some (some (.ref 289))),
  fun K => decide (PySem.W.keepIn K (.ref 289) = true),
  fun K => decide (PySem.W.nsIn K mainGlobals "_law_same" = some (some (.ref 294))),
  fun K => decide (PySem.W.keepIn K (.ref 294) = true),
  fun K => decide (PySem.W.nsIn K mainGlobals "_law_image" = some (some (.ref 299))),
  fun K => decide (PySem.W.keepIn K (.ref 299) = true),
  fun K => decide (PySem.W.nsIn K mainGlobals "_law_nested" = some (some (.ref 306))),
  fun K => decide (PySem.W.keepIn K (.ref 306) = true),
  fun K => decide (PySem.W.nsIn K mainGlobals "_law_is_nested" = some (some (.ref 313))),
  fun K => decide (PySem.W.keepIn K (.ref 313) = true),
  fun K => decide (PySem.W.nsIn K mainGlobals "_law_chain" = some (some (.ref 320))),
  fun K => decide (PySem.W.keepIn K (.ref 320) = true),
  fun K => decide (PySem.W.nsIn K mainGlobals "law" = some (some (.ref 325))),
  fun K => decide (PySem.W.keepIn K (.ref 325) = true),
  fun K => decide (PySem.W.nsIn K mainGlobals "len" = some none),
  fun K => decide (PySem.W.nsIn K mainGlobals "int" = some none),
  fun K => decide (PySem.W.nsIn K mainGlobals "range" = some none),
  fun K => decide (PySem.W.nsIn K mainGlobals "min" = some none),
  fun K => decide (PySem.W.nsIn K mainGlobals "str" = some none),
  fun K => decide (PySem.W.nsIn K mainGlobals "tuple" = some none),
  fun K => decide (PySem.W.nsIn K mainGlobals "sorted" = some none),
  fun K => decide (PySem.W.nsIn K mainGlobals "isinstance" = some none),
  fun K => decide (PySem.W.nsIn K mainGlobals "any" = some none),
  fun K => decide (PySem.W.nsIn K mainGlobals "all" = some none),
  fun K => decide (PySem.W.nsIn K mainGlobals "list" = some none),
  fun K => decide (PySem.W.nsIn K mainGlobals "bool" = some none),
  fun K => decide (PySem.W.nsIn K mainGlobals "zip" = some none),
  fun K => decide (PySem.W.nsIn K mainGlobals "reversed" = some none),
  fun K => decide (PySem.W.nsIn K mainGlobals "dict" = some none),
  fun K => decide (PySem.W.nsIn K mainGlobals "sum" = some none),
  fun K => (He.Fa.int "MOST_PARTS" 4000).ok K,
  fun K => (He.Fa.int "MOST_NESTED" 200).ok K,
  fun K => decide (PySem.W.nsIn K mainGlobals "_FORMS" = some (some (.ref 40))),
  fun K => He.tupB K "_FORMS" [.str "get", .str "set", .str "plus", .str "minus"],
  fun K => decide (PySem.W.nsIn K mainGlobals "TooLarge" = some (some (.ref 37))),
  fun K => decide (PySem.W.nsIn K mainGlobals "PassError" = some (some (.ref 24))),
  fun K => decide (PySem.W.excIn K 37 [.type "ValueError", .type "Exception", .type "BaseException", .type "object"] "ValueError.__new__" = true),
  fun K => decide (PySem.W.keepIn K (.ref 37) = true),
  fun K => decide (PySem.W.subIn K (.ref 37) (.type "BaseException") = some true),
  fun K => decide (PySem.W.typeIn K (.ref 37) = some (.type "type")),
  fun K => decide (PySem.W.isClsIn K 37 = true),
  fun K => decide (PySem.W.subIn K (.ref 37) (.ref 37) = some true),
  fun K => decide (PySem.W.isClsIn K 24 = true),
  fun K => decide (PySem.W.typeIn K (.ref 24) = some (.type "type")),
  fun K => decide (PySem.W.subIn K (.ref 37) (.ref 24) = some true),
  fun K => decide (PySem.W.findIn K (.ref 37) "__getattribute__" = some (some (.builtin "BaseException.__getattribute__"))),
  fun K => decide (PySem.W.findIn K (.ref 37) "__getattr__" = some none),
  fun K => decide (PySem.W.hasDictIn K 37 = true),
  fun K => decide (PySem.W.findIn K (.ref 37) "__class__" = some (some (.builtin "object.__class__"))),
  fun K => decide (PySem.W.specialIn K (.builtin "object.__class__") "__get__" = some (some (.builtin "getset_descriptor.__get__"))),
  fun K => decide (PySem.W.takesIn K (.builtin "object.__class__") = some true),
  fun K => decide (PySem.W.mroIn K 37 (.type "object") = some true)]
def hFn : List He.FnD := [
  ⟨("children", none), "children", "children", defArgs (hTop 5), defBody (hTop 5), defScope (hTop 5)⟩,
  ⟨("rebuild", none), "rebuild", "rebuild", defArgs (hTop 6), defBody (hTop 6), defScope (hTop 6)⟩,
  ⟨("assembled", none), "assembled", "assembled", defArgs (hTop 7), defBody (hTop 7), defScope (hTop 7)⟩,
  ⟨("templates_of", none), "templates_of", "templates_of", defArgs (hTop 11), defBody (hTop 11), defScope (hTop 11)⟩,
  ⟨("translate", none), "translate", "translate", defArgs (hTop 12), defBody (hTop 12), defScope (hTop 12)⟩,
  ⟨("translated_state", none), "translated_state", "translated_state", defArgs (hTop 13), defBody (hTop 13), defScope (hTop 13)⟩,
  ⟨("translate_state", none), "translate_state", "translate_state", defArgs (hTop 15), defBody (hTop 15), defScope (hTop 15)⟩,
  ⟨("_law_pool", none), "_law_pool", "_law_pool", defArgs (hTop 17), defBody (hTop 17), defScope (hTop 17)⟩,
  ⟨("_law_take", none), "_law_take", "_law_take", defArgs (hTop 18), defBody (hTop 18), defScope (hTop 18)⟩,
  ⟨("_law_words", none), "_law_words", "_law_words", defArgs (hTop 19), defBody (hTop 19), defScope (hTop 19)⟩,
  ⟨("_law_number", none), "_law_number", "_law_number", defArgs (hTop 20), defBody (hTop 20), defScope (hTop 20)⟩,
  ⟨("_law_atom", none), "_law_atom", "_law_atom", defArgs (hTop 21), defBody (hTop 21), defScope (hTop 21)⟩,
  ⟨("_law_constructors", none), "_law_constructors", "_law_constructors", defArgs (hTop 22), defBody (hTop 22), defScope (hTop 22)⟩,
  ⟨("_law_of_kind", none), "_law_of_kind", "_law_of_kind", defArgs (hTop 23), defBody (hTop 23), defScope (hTop 23)⟩,
  ⟨("_law_pick", none), "_law_pick", "_law_pick", defArgs (hTop 24), defBody (hTop 24), defScope (hTop 24)⟩,
  ⟨("_law_part", none), "_law_part", "_law_part", defArgs (hTop 25), defBody (hTop 25), defScope (hTop 25)⟩,
  ⟨("_law_pattern", none), "_law_pattern", "_law_pattern", defArgs (hTop 26), defBody (hTop 26), defScope (hTop 26)⟩,
  ⟨("_law_operand", none), "_law_operand", "_law_operand", defArgs (hTop 27), defBody (hTop 27), defScope (hTop 27)⟩,
  ⟨("_law_condition", none), "_law_condition", "_law_condition", defArgs (hTop 28), defBody (hTop 28), defScope (hTop 28)⟩,
  ⟨("_law_conditions", none), "_law_conditions", "_law_conditions", defArgs (hTop 29), defBody (hTop 29), defScope (hTop 29)⟩,
  ⟨("_law_occurs", none), "_law_occurs", "_law_occurs", defArgs (hTop 30), defBody (hTop 30), defScope (hTop 30)⟩,
  ⟨("_law_sort", none), "_law_sort", "_law_sort", defArgs (hTop 31), defBody (hTop 31), defScope (hTop 31)⟩,
  ⟨("_law_of_sort", none), "_law_of_sort", "_law_of_sort", defArgs (hTop 32), defBody (hTop 32), defScope (hTop 32)⟩,
  ⟨("_law_integer", none), "_law_integer", "_law_integer", defArgs (hTop 33), defBody (hTop 33), defScope (hTop 33)⟩,
  ⟨("_law_map", none), "_law_map", "_law_map", defArgs (hTop 34), defBody (hTop 34), defScope (hTop 34)⟩,
  ⟨("_law_set", none), "_law_set", "_law_set", defArgs (hTop 35), defBody (hTop 35), defScope (hTop 35)⟩,
  ⟨("_law_worth", none), "_law_worth", "_law_worth", defArgs (hTop 36), defBody (hTop 36), defScope (hTop 36)⟩,
  ⟨("_law_node", none), "_law_node", "_law_node", defArgs (hTop 37), defBody (hTop 37), defScope (hTop 37)⟩,
  ⟨("_law_form", none), "_law_form", "_law_form", defArgs (hTop 38), defBody (hTop 38), defScope (hTop 38)⟩,
  ⟨("_law_action", none), "_law_action", "_law_action", defArgs (hTop 39), defBody (hTop 39), defScope (hTop 39)⟩,
  ⟨("_law_rule", none), "_law_rule", "_law_rule", defArgs (hTop 40), defBody (hTop 40), defScope (hTop 40)⟩,
  ⟨("_law_language", none), "_law_language", "_law_language", defArgs (hTop 41), defBody (hTop 41), defScope (hTop 41)⟩,
  ⟨("_law_own", none), "_law_own", "_law_own", defArgs (hTop 42), defBody (hTop 42), defScope (hTop 42)⟩,
  ⟨("_law_ground", none), "_law_ground", "_law_ground", defArgs (hTop 43), defBody (hTop 43), defScope (hTop 43)⟩,
  ⟨("_law_filled", none), "_law_filled", "_law_filled", defArgs (hTop 44), defBody (hTop 44), defScope (hTop 44)⟩,
  ⟨("_law_put", none), "_law_put", "_law_put", defArgs (hTop 45), defBody (hTop 45), defScope (hTop 45)⟩,
  ⟨("_law_templated", none), "_law_templated", "_law_templated", defArgs (hTop 46), defBody (hTop 46), defScope (hTop 46)⟩,
  ⟨("_law_translate", none), "_law_translate", "_law_translate", defArgs (hTop 47), defBody (hTop 47), defScope (hTop 47)⟩,
  ⟨("_law_mixed", none), "_law_mixed", "_law_mixed", defArgs (hTop 48), defBody (hTop 48), defScope (hTop 48)⟩,
  ⟨("_law_renamed", none), "_law_renamed", "_law_renamed", defArgs (hTop 49), defBody (hTop 49), defScope (hTop 49)⟩,
  ⟨("_law_longer", none), "_law_longer", "_law_longer", defArgs (hTop 50), defBody (hTop 50), defScope (hTop 50)⟩,
  ⟨("_law_same", none), "_law_same", "_law_same", defArgs (hTop 51), defBody (hTop 51), defScope (hTop 51)⟩,
  ⟨("_law_image", none), "_law_image", "_law_image", defArgs (hTop 52), defBody (hTop 52), defScope (hTop 52)⟩,
  ⟨("_law_nested", none), "_law_nested", "_law_nested", defArgs (hTop 53), defBody (hTop 53), defScope (hTop 53)⟩,
  ⟨("_law_is_nested", none), "_law_is_nested", "_law_is_nested", defArgs (hTop 54), defBody (hTop 54), defScope (hTop 54)⟩,
  ⟨("_law_chain", none), "_law_chain", "_law_chain", defArgs (hTop 55), defBody (hTop 55), defScope (hTop 55)⟩,
  ⟨("law", none), "law", "law", defArgs (hTop 56), defBody (hTop 56), defScope (hTop 56)⟩]
abbrev hk : PySem.W.Hook := hookH hAs hTs hFn
set_option maxHeartbeats 0 in
theorem run (w : World) : HandSHeadRun.RunEq Rr (PySem.W.view Rr.prog [56]) hk (obH hAs hTs hFn) 3892 hNs w := by
  intro os
  kernel_rfl
end PK
namespace PKR
open PySem L2
/-! ### one of two walks, as it comes -/
theorem pi_or {X : Cx} {tg iter : Expr} {w1 w2 : TI} (a : PI X tg iter w1) (b : PI X tg iter w2) : PI X tg iter (fun σ H R => w1 σ H R ∨ w2 σ H R) :=
  ⟨fun pins s σ H R I h => h.elim (a.run pins s σ H R I) (b.run pins s σ H R I)⟩
/-! ### enumerate over a tuple -/
set_option maxHeartbeats 2000000 in
theorem meets_enum_any {v : Value} {o : Obj} {Hh : Heap → Prop} (B : Begins v o Hh) :
    Meets (Builtin.«enumerate.__new__» ⟨[.type "enumerate", v], []⟩) (fun _ R s => Hh s.heap ∧
      R (.ok (.ret (.ref (s.heap.push o).objs.size))) { s with heap := (s.heap.push o).push { cls := .type "enumerate", data := .fields #[.none, .bool false, .ref s.heap.objs.size, rawInt 0, .none, .none] } }) := by
  refine .of_wp fun prog w A R s h => ?_
  obtain ⟨hp, g, d, tk, os⟩ := s
  obtain ⟨hH, hR⟩ := h
  have sub_e := sub_enumerate
  have it_v : ∀ {A' : Around} {E Q : Value → Shared → Prop}, Q (.ref hp.objs.size) ⟨hp.push o, g, d, tk, os⟩ → wpAny (model prog w) A' (pyIter v) Q E ⟨hp, g, d, tk, os⟩ := fun z => B.iter prog w _ _ ⟨hp, g, d, tk, os⟩ _ hH z
  wp_walk using it_v
  refine wpAny_stack_any fun st => wpAny_pure ?_
  split
  · rename_i c _ _ _ _ _
    cases (c == Value.type "enumerate") <;> (wp_walk using it_v; exact ⟨_, rfl, hR⟩)
  · wp_walk using it_v
    exact ⟨_, rfl, hR⟩
theorem call_enum_any {prog : Program} {w : World} {A : Around} {E : Value → Shared → Prop} {s : Shared} {v : Value} {o : Obj} {Hh : Heap → Prop} {Q : Value → Shared → Prop} (B : Begins v o Hh) (hH : Hh s.heap)
    (hq : ∀ h', IsEnum h' (s.heap.objs.size + 1) s.heap.objs.size 0 .none → h'.get? s.heap.objs.size = some o → (∀ b u, s.heap.get? b = some u → h'.get? b = some u) → Q (.ref (s.heap.objs.size + 1)) { s with heap := h' }) :
    wpAny (model prog w) A (call (.type "enumerate") [v]) Q E s := by
  refine callType_new F.called_enumerate (by decide) (F.typeCall_enumerate_1 _) (F.newCall_enumerate_1 _) (fun obj => F.args_object_init_2 obj _) F.entry_enumerate_new (meets_enum_any B) ⟨hH, ?_⟩
  have sz : (s.heap.push o).objs.size = s.heap.objs.size + 1 := Heap.size_push ..
  show _ ∧ _
  rw [sz]
  have en : IsEnum ((s.heap.push o).push { cls := .type "enumerate", data := .fields #[.none, .bool false, .ref s.heap.objs.size, rawInt 0, .none, .none] }) (s.heap.objs.size + 1) s.heap.objs.size 0 .none := by
    have g := Heap.get?_push_size (s.heap.push o) (o := { cls := .type "enumerate", data := .fields #[.none, .bool false, .ref s.heap.objs.size, rawInt 0, .none, .none] }) rfl
    rw [sz] at g
    exact g
  exact ⟨⟨_, en, rfl⟩, hq _ en (Heap.get?_push_of_some _ (Heap.get?_push_size _ B.free)) fun b u z => Heap.get?_push_of_some _ (Heap.get?_push_of_some _ z)⟩
/-- the tuple at a, each item in a new pair with its number -/
def ItE (K : PySem.W.Frag) (a : Addr) : It :=
  ⟨fun i H => ∃ (xs : List V) (x : V), SqT K H a xs ∧ xs[i]? = some x, fun i H v H' => ∃ T x, v = .ref T ∧ H T = none ∧ H' = upd H T (.tup [.int (i : Nat), x]) ∧ ∀ xs, SqT K H a xs → xs[i]? = some x, fun i H => ∃ xs : List V, SqT K H a xs ∧ xs.length = i⟩
theorem pair_mem {b e it : Addr} (h : b ∈ [e, it]) : b = e ∨ b = it := by simpa using h
theorem turn_enumT {P : Program} {w : World} {K : PySem.W.Frag} {es : List Expr} {k : Nat} {pos : Pos} (a e it : Addr) :
    Turn P w K (.Tuple es k pos) (ItE K a) [e, it] e (fun i h => (∃ old, IsEnum h e it ((i : Nat) : Int) old) ∧ h.IsTupleIter it a i ∧ e ≠ it ∧ a ≠ it ∧ e ≠ a) where
  mem := List.mem_cons_self
  obj := fun i h st b hb => by
    obtain ⟨⟨old, he⟩, ⟨o, ho, _, hd⟩, _⟩ := st
    rcases pair_mem hb with rfl | rfl
    · exact ⟨_, he, fun v q => nomatch q⟩
    · exact ⟨o, ho, fun v q => by rw [hd] at q; cases q⟩
  keep := fun i h h' st k => by
    obtain ⟨⟨old, he⟩, hi, ne⟩ := st
    exact ⟨⟨old, k e List.mem_cons_self _ he⟩, hi.at fun o q => k it (List.mem_cons_of_mem _ List.mem_cons_self) o q, ne⟩
  item := by
    intro X eP ew eK calm i pins s σ H E I free st go
    subst eP ew eK
    obtain ⟨⟨old, he⟩, hi, ne, na, nea⟩ := st
    obtain ⟨xs, x, hx, gx⟩ := go
    obtain ⟨its, rv, pT, _⟩ := I.tuple hx
    obtain ⟨u, gu, ru⟩ := rv.get gx
    have hh : X.A.handled = none := I.ok.hd calm
    have D := Draws.tuple (prog := X.prog) (w := X.w) (A := X.A.in1) hh it a na its.toArray
    have lt : i < its.toArray.size := by
      have := (List.getElem?_eq_some_iff.mp gu).1
      simpa using this
    have be := Heap.lt_size he
    have bi : it < s.heap.objs.size := by obtain ⟨_, q, _⟩ := hi; exact Heap.lt_size q
    refine wpAny_pyNext_enum_itemD D he ⟨hi, show s.heap.IsTuple a its.toArray from pT⟩ lt ne (fun m => (pair_mem m).elim ne nea) fun y h1 tk hy out st1 hT _ old1 => ?_
    have ey : y = u := by
      have : its.toArray[i]? = some u := by simpa using gu
      rw [hy] at this
      exact Option.some.inj this
    subst ey
    refine ⟨_, rfl, wpAny_letOwnedTupleGo_enum (s := { s with heap := h1, toks := tk + 1 }) out fun h2 en sb => ?_⟩
    have hT2 := (sb.2 _ (Nat.ne_of_gt be)).trans hT
    have obj : ObjOk X.prog X.w (upd H s.heap.objs.size (.tup [.int (i : Nat), x])) h2 s.heap.objs.size (.tup [.int (i : Nat), x]) :=
      ⟨by show 2 ≤ sizeLine; decide, [.int i tk, y], .cons ⟨_, rfl⟩ (.cons ru .nil), ⟨_, hT2, rfl, _, rfl⟩⟩
    have J : Inv X pins σ (upd H s.heap.objs.size (.tup [.int (i : Nat), x])) { s with heap := h2, toks := tk + 1 } :=
      I.turnedNew (ch := [e, it]) (fun b ob nb q => by
        have n1 : b ≠ e := fun z => nb (by rw [z]; exact List.mem_cons_self)
        have n2 : b ≠ it := fun z => nb (by rw [z]; exact List.mem_cons_of_mem _ List.mem_cons_self)
        exact (sb.2 b n1).trans (old1 b ob n1 n2 q)) free (Nat.le_refl _) obj
    refine ⟨.ref s.heap.objs.size, _, J, rfl, ⟨_, x, rfl, I.hok.fresh (Nat.le_refl _), rfl, fun ys hy' => by rw [I.tuple_inj hy' hx]; exact gx⟩, ⟨⟨y, ?_⟩, st1.1.at fun o q => (sb.2 it ne.symm).trans q, ne, na, nea⟩, fun b hb => ?_⟩
    · rw [show ((i + 1 : Nat) : Int) = (i : Int) + 1 by omega]
      exact en
    · have lb : b < s.heap.objs.size := by
        rcases pair_mem hb with rfl | rfl
        · exact be
        · exact bi
      rw [upd_ne (Nat.ne_of_lt lb)]
      exact (free b hb).1
  done := by
    intro X eP ew eK calm i pins s σ H E I free st stop
    subst eP ew eK
    obtain ⟨⟨old, he⟩, hi, ne, na, nea⟩ := st
    obtain ⟨xs, hx, lx⟩ := stop
    obtain ⟨its, rv, pT, _⟩ := I.tuple hx
    have hh : X.A.handled = none := I.ok.hd calm
    have D := Draws.tuple (prog := X.prog) (w := X.w) (A := X.A.in1) hh it a na its.toArray
    have ei : its.toArray.size = i := by rw [List.size_toArray, ← rv.length, lx]
    obtain ⟨f0, f1, f2, f3, f4, f5⟩ := free it (List.mem_cons_of_mem _ List.mem_cons_self)
    exact wpAny_pyNext_enum_endD D he ⟨by rw [ei]; exact hi, show s.heap.IsTuple a its.toArray from pT⟩ fun h2 old1 => ⟨rfl, I.turned (t' := s.toks) (fun b o nb q => old1 b o nb q) f0 f1 f3 f4 f5⟩
  self := fun A i s Q E st h => by
    obtain ⟨⟨_, he⟩, _⟩ := st
    exact wpAny_pyIter_enum he h
def iEnumT (K : PySem.W.Frag) (ta : TA) : TI := fun σ H R => ta σ H fun vs H1 => ∃ a xs, vs = [.ref a] ∧ SqT K H1 a xs ∧ R (ItE K a) H1
theorem pi_enumT {X : Cx} {e : Expr} {ta : TA} {p pos tpos : Pos} {es : List Expr} {k : Nat} (hg : Gl X "enumerate") (hm : X.mg "enumerate" = none) (ha : PA X [e] ta) (hs : starEach [e] X.env = [(false, eval e X.env)] := by rfl) :
    PI X (.Tuple es k tpos) (.Call (.Name "enumerate" p) [e] [] pos) (iEnumT X.K ta) := by
  refine ⟨fun pins s σ H R I h => PyProof.Rows.Call_ (ld_blt I hg hm PyProof.Rows.boot_enumerate (PyProof.Rows.callWith_type1 (thn (ha.run pos pins s σ H _ I h) fun us s1 hz => ?_) hs rfl))⟩
  obtain ⟨vs, H1, I1, rs, a, xs, rfl, hx, q⟩ := hz
  cases rs with
  | cons r rest =>
    cases rest
    cases r
    obtain ⟨its, rv, pT, _⟩ := I1.tuple hx
    have la : a < s1.heap.objs.size := pT.lt
    refine call_enum_any (begins_tuple a its.toArray) (show s1.heap.IsTuple a its.toArray from pT) fun h2 en gi old => wpAny_pyIter_enum en ?_
    have J : Inv X pins σ H1 { s1 with heap := h2 } := I1.kept (t' := s1.toks) old
    have na : a ≠ s1.heap.objs.size := Nat.ne_of_lt la
    have nea : s1.heap.objs.size + 1 ≠ a := Nat.ne_of_gt (Nat.lt_succ_of_lt la)
    refine ⟨_, [s1.heap.objs.size + 1, s1.heap.objs.size], _, _, H1, rfl, J, turn_enumT a (s1.heap.objs.size + 1) s1.heap.objs.size, ⟨⟨.none, en⟩, ⟨_, gi, rfl, rfl⟩, Nat.succ_ne_self _, na, nea⟩, fun b hb => ?_, q⟩
    have lb : s1.heap.objs.size ≤ b := by
      rcases pair_mem hb with rfl | rfl
      · exact Nat.le_succ _
      · exact Nat.le_refl _
    exact I1.fpOk lb (I1.hok.fresh lb)
/-! ### an empty tuple and another one -/
def rCat0 (K : PySem.W.Frag) : R2 := fun x y H Q => ∃ a b ys, x = .ref a ∧ y = .ref b ∧ SqT K H a [] ∧ SqT K H b ys ∧ Q (.ref b) H
theorem op_cat0 {X : Cx} : OpR X (binaryOp .Add) (rCat0 X.K) := by
  intro pins s σ H x y v u Q I rx ry h
  obtain ⟨a, b, ys, rfl, rfl, ha, hb, q⟩ := h
  cases rx
  cases ry
  obtain ⟨i1, r1, p1, _⟩ := I.tuple ha
  obtain ⟨i2, r2, p2, _⟩ := I.tuple hb
  cases r1
  obtain ⟨⟨c1, d1, t1, l1⟩, g1, e1, n1, f1⟩ := id p1
  obtain ⟨⟨c2, d2, t2, l2⟩, g2, e2, n2, f2⟩ := id p2
  simp only at e1 f1 e2 f2
  subst e1 f1 e2 f2
  exact PySem.concat_meets ⟨_, g1, rfl⟩ ⟨_, g2, rfl⟩ PySem.noFill_tuple_add PySem.seq_tuple_add PySem.F.slot_tuple_add PySem.F.entry_tuple_add (PySem.F.args_tuple_add_2 _ _)
    (PyProof.Rows.tuple_addW0 a b #[] i2.toArray n1 n2 d1 d2 l1 l2 rfl) ⟨g1, g2, ⟨.ref b, H, I, rfl, q⟩⟩
/-- t + u -/
def rCatA (K : PySem.W.Frag) : R2 := fun x y H Q => rCatT K x y H Q ∨ rCat0 K x y H Q
theorem op_catA {X : Cx} : OpR X (binaryOp .Add) (rCatA X.K) := op_catT.or op_cat0
end PKR
/-! a try with several clauses 'except X as n', every one with its own suite -/
namespace L2.PKR
open PySem PySem.Spec PyProof.Rows
abbrev Suite := Addr → Value → Option Addr → TS
/-- the ends of a suite whose name is given back -/
def offEnds (i : Nat) (D : Ends) : Ends := ⟨fun p q => D.nx (p.set i none) q, D.rt, fun p q => D.bk (p.set i none) q, fun p q => D.ct (p.set i none) q⟩
/-- the wish of the clauses, in their order -/
def wRow (K : PySem.W.Frag) (Wout : WX) (D : Ends) : List (Value × Nat × Suite) → WX
  | [] => Wout
  | (c, i, ts) :: rest => fun cls d σ H =>
    ∃ yes, PySem.W.exmOne K cls c = some yes ∧ (yes = true → ∀ a, H a = none → ts a cls d (offEnds i D) (σ.set i (some (.ref a))) H) ∧ (yes = false → wRow K Wout D rest cls d σ H)
/-- the exception at a, caught and on the ground -/
structure Down (X : Cx) (pins : List (Addr × Obj)) (B : Heap) (a : Addr) (before : Shared) (σ : St) (H : Hp) (cls : Value) (d : Option Addr) (s : Shared) : Prop where
  inv : Inv X pins σ H before
  base : ∀ b o, before.heap.get? b = some o → b ∉ frs X.stack → B.get? b = some o
  slots : before.heap.UpToSlots s.heap
  fly : HandSPX.FlyingZ B (X.env :: X.outer) a (Zc cls d) s.heap
  out : H a = none
  os : s.os = before.os
  bare : AllBare s.gens
section
variable {X : Cx} {pins : List (Addr × Obj)} {B : Heap} {a : Addr} {before s : Shared} {σ : St} {H : Hp} {cls : Value} {d : Option Addr} {D : Ends} {Wout : WX}
theorem Down.here (z : Down X pins B a before σ H cls d s) : Inv X pins σ H s := z.inv.landed z.base z.fly.1 z.slots z.os z.bare
/-- its object, and that it is none of the frames' -/
theorem Down.obj (hf : X.env.frame = some X.env.locals) (z : Down X pins B a before σ H cls d s) : ∃ oe vs, s.heap.get? a = some oe ∧ Zc cls d oe ∧ oe.data = .fields vs ∧ a ≠ X.env.locals ∧ a ∉ X.fs := by
  obtain ⟨oe, vs, he, hz, hd⟩ := z.fly.there
  have nfr : a ∉ frs (X.env :: X.outer) := fun hm => by
    obtain ⟨_, o2, e2, no⟩ := z.fly.2.2.1.mem hm
    rw [he] at e2
    cases e2
    exact no _ hd
  refine ⟨oe, vs, he, hz, hd, fun q => nfr (List.mem_filterMap.mpr ⟨X.env, .head _, by rw [hf, q]⟩), fun q => ?_⟩
  obtain ⟨en, m, r⟩ := List.mem_filterMap.mp q
  exact nfr (List.mem_filterMap.mpr ⟨en, .tail _ m, r⟩)
theorem Down.more (z : Down X pins B a before σ H cls d s) {h : Heap} (fl : HandSPX.FlyingZ B (X.env :: X.outer) a (Zc cls d) h) (up : s.heap.UpToSlots h) : Down X pins B a before σ H cls d { s with heap := h } :=
  ⟨z.inv, z.base, z.slots.trans up, fl, z.out, z.os, z.bare⟩
/-- no clause is left -/
theorem row_nil (hs : X.stack = X.env :: X.outer) (hf : X.env.frame = some X.env.locals) (tk : Takes X Wout) (z : Down X pins B a before σ H cls d s) (w : Wout cls d σ H) :
    wpAny (model X.prog X.w) X.A (handleBy (.ref a) X.env []) (SP X pins D) X.xe s := by
  refine wpAny_handleBy_nil ?_
  obtain ⟨_, _, _, oe, vs, T, _, _, he, _, hd, h1, _⟩ := id z.fly
  unfold PySem.passOn
  refine wpAny_bind (wpAny_field he hd h1 ?_)
  rw [if_neg (show ¬ ((Value.ref T == Value.none) = true) by simp)]
  have last : wpAny (model X.prog X.w) X.A (setFlight (.ref a) X.env.frame) (fun _ s2 => wpAny (model X.prog X.w) X.A (throw (.ref a) : Sem Flow) (SP X pins D) X.xe s2) X.xe s := by
    rw [hf]
    refine HandSPX.setFlight_upZ z.fly fun h2 held up => wpAny_throw (tk _ _ ?_)
    exact ⟨a, B, before, pins, σ, H, cls, d, rfl, z.inv, z.base, z.slots.trans up, .inr (.inr (by rw [hs]; exact held)), z.out, z.os, z.bare, w⟩
  first
    | exact wpAny_bind (wpAny_pure (wpAny_bind last))
    | exact wpAny_bind last
/-- one clause -/
theorem row_cons {x n : Str} {c : Value} {i : Nat} {b₀ : Stmt} {more : List Stmt} {np pos : Pos} {ts : Suite} {hds : List ExceptHandler} {yes : Bool} (hf : X.env.frame = some X.env.locals) (hN : X.N.Nodup) (hi : X.N[i]? = some n)
    (hl : X.env.kindOf n = some .local) (hc : Names X x c)
    (body : ∀ (a : Addr) (oe : Obj) (cls : Value) (d : Option Addr) (pn : List (Addr × Obj)), Zc cls d oe → (∃ vs, oe.data = .fields vs) → PSs (X.suite a ((a, oe) :: pn)) (b₀ :: more) (ts a cls d))
    (z : Down X pins B a before σ H cls d s) (hy : PySem.W.exmOne X.K cls c = some yes) (t : yes = true → ts a cls d (offEnds i D) (σ.set i (some (.ref a))) H)
    (f : yes = false → wpAny (model X.prog X.w) X.A (handleBy (.ref a) X.env hds) (SP X pins D) X.xe s) :
    wpAny (model X.prog X.w) X.A (handleBy (.ref a) X.env (.ExceptHandler (some (.Name x np)) (some n) (b₀ :: more) pos :: hds)) (SP X pins D) X.xe s := by
  have ok := z.inv.ok
  obtain ⟨oe, vs, he, hz, hd, nL, nF⟩ := z.obj hf
  have S := z.here.suite he hd z.out nL nF
  refine wpAny_handleBy_cons (codeAny_handlers_test ?_) (fun q => nomatch q)
  have ty : PySem.W.Looks (model X.prog X.w) s.heap (typeOf (.ref a)) cls := fun _ _ _ _ k q => wpAny_typeOf_ref (k _ _ he) (by rw [hz.1]; exact q)
  have isIt := PySem.W.exm_one (M := model X.prog X.w) z.here.kIn ty hy
  have named : ∀ {Q E : Value → Shared → Prop}, Q c s → wpAny (model X.prog X.w) (X.A.mark (some (.ref a))) (eval (.Name x np) X.env) Q E s := fun {Q E} q => by
    obtain ⟨hg, nd, hm | ⟨hm, hv, hn⟩⟩ := hc
    · exact ld_glob (X := X.suite a ((a, oe) :: (X.pn ++ pins))) S hg hm q nd
    · exact ld_blt (X := X.suite a ((a, oe) :: (X.pn ++ pins))) S hg hm hv q hn nd
  refine named (isIt.here ?_)
  cases yes with
  | false => exact f rfl
  | true =>
    refine codeAny_handlers_suite_as (HandSPX.lands_againZ z.fly fun h2 fl up => ?_)
    have z2 := z.more fl up
    obtain ⟨oe2, vs2, he2, hz2, hd2, nL2, nF2⟩ := z2.obj hf
    refine store_ok (X := X.suite a ((a, oe2) :: (X.pn ++ pins))) (v := .ref a) (z2.here.suite he2 hd2 z.out nL2 nF2) hN hi (.inl hl) rfl (fun s3 S3 => ?_) (.inr hl)
    have run := (body a oe2 cls d (X.pn ++ pins) hz2 ⟨_, hd2⟩).run [] s3 (σ.set i (some (.ref a))) H (offEnds i D) S3 (t rfl)
    have gone : ∀ {p : St} {q : Hp} {s4 : Shared} {Q : Shared → Prop}, Inv (X.suite a ((a, oe2) :: (X.pn ++ pins))) [] p q s4 → (∀ s5, Inv X pins (p.set i none) q s5 → Q s5) →
        wpAny (model X.prog X.w) X.A (do bindName X.env n .none; unbindBehindTheSuite X.env n pos) (fun _ s5 => Q s5) X.xe s4 := fun S4 k => gone_ok (S4.unsuite ok) hN hi hl k
    refine wpAny_mono run (fun fl4 s4 done => ?_) (fun _ _ no => False.elim no)
    rcases fl4 with _ | _ | _ | u
    · obtain ⟨p, q, S4, k⟩ := done
      exact gone S4 fun s5 J => ⟨_, _, J, k⟩
    · obtain ⟨p, q, S4, k⟩ := done
      exact gone S4 fun s5 J => ⟨_, _, J, k⟩
    · obtain ⟨p, q, S4, k⟩ := done
      exact gone S4 fun s5 J => ⟨_, _, J, k⟩
    · obtain ⟨v, p, q, S4, r, k⟩ := done
      exact gone S4 fun s5 J => ⟨_, _, _, J, r, k⟩
end
/-- the clauses and their wishes -/
inductive Row (X : Cx) : List ExceptHandler → List (Value × Nat × Suite) → Prop
  | nil : Row X [] []
  | cons {x n : Str} {c : Value} {i : Nat} {b₀ : Stmt} {more : List Stmt} {np pos : Pos} {ts : Suite} {hds : List ExceptHandler} {l : List (Value × Nat × Suite)} (hi : X.N[i]? = some n) (hl : X.env.kindOf n = some .local) (hc : Names X x c)
      (body : ∀ (a : Addr) (oe : Obj) (cls : Value) (d : Option Addr) (pn : List (Addr × Obj)), Zc cls d oe → (∃ vs, oe.data = .fields vs) → PSs (X.suite a ((a, oe) :: pn)) (b₀ :: more) (ts a cls d)) (r : Row X hds l) :
      Row X (.ExceptHandler (some (.Name x np)) (some n) (b₀ :: more) pos :: hds) ((c, i, ts) :: l)
theorem row_runs {X : Cx} {pins : List (Addr × Obj)} {B : Heap} {a : Addr} {before s : Shared} {σ : St} {H : Hp} {cls : Value} {d : Option Addr} {D : Ends} {Wout : WX} (hs : X.stack = X.env :: X.outer) (hf : X.env.frame = some X.env.locals) (hN : X.N.Nodup) (tk : Takes X Wout)
    {hds : List ExceptHandler} {l : List (Value × Nat × Suite)} (hh : Row X hds l) (z : Down X pins B a before σ H cls d s) (w : wRow X.K Wout D l cls d σ H) : wpAny (model X.prog X.w) X.A (handleBy (.ref a) X.env hds) (SP X pins D) X.xe s := by
  induction hh with
  | nil => exact row_nil hs hf tk z w
  | cons hi hl hc body r ih =>
    obtain ⟨yes, hy, t, f⟩ := w
    exact row_cons hf hN hi hl hc body z hy (fun e => t e a z.out) fun e => ih (f e)
theorem ps_try_row {X : Cx} {body : List Stmt} {h₀ : ExceptHandler} {hds : List ExceptHandler} {l : List (Value × Nat × Suite)} {pos : Pos} {tb : WX → TS} {Wout : WX} (hs : X.stack = X.env :: X.outer) (hf : X.env.frame = some X.env.locals) (hN : X.N.Nodup) (tk : Takes X Wout)
    (hb : ∀ (W : WX) (pn : List (Addr × Obj)) (xe : Value → Shared → Prop), Takes (X.tr pn xe) W → PassesOwn (model X.prog X.w) X.A X.env xe → PSs (X.tr pn xe) body (tb W))
    (hh : Row X (h₀ :: hds) l) : PS X (.Try body (h₀ :: hds) [] [] pos) (fun D σ H => tb (wRow X.K Wout D l) D σ H) := by
  refine ⟨fun pins s σ H D I h => wpAny_Try_except ?_⟩
  have ok := I.ok
  have fr : X.A.frames = some (X.env :: X.outer) := by rw [ok.frames, hs]
  have inner := hb (wRow X.K Wout D l) (X.pn ++ pins)
    (fun e s1 => wpAny (model X.prog X.w) X.A (noteFrame e X.env) (fun _ s2 => wpAny (model X.prog X.w) X.A (setFlight e none) (fun _ s3 => wpAny (model X.prog X.w) X.A (handleBy e X.env (h₀ :: hds)) (SP X pins D) X.xe s3) X.xe s2) X.xe s1)
    (fun u s1 air => by
      obtain ⟨a, B, before, pins1, p, q, cls, d, rfl, J, base, up, sky, out, os, bare, w⟩ := air
      have J1 : Inv X pins p q before := J.ofTry ok
      refine Sky.land Zc.steady fr hf (show Sky B (X.env :: X.outer) a (Zc cls d) X.env.locals s1.heap by rw [← hs]; exact sky) fun h2 fl up2 => ?_
      exact row_runs hs hf hN tk hh (s := { s1 with heap := h2 }) ⟨J1, base, up.trans up2, fl, out, os, bare⟩ w)
    PassesOwn.looking
  refine wpAny_mono (inner.run [] s σ H D (I.toTry _) h) (fun f s1 done => ?_) (fun _ _ k => k)
  rcases f with _ | _ | _ | u
  · obtain ⟨p, q, J, k⟩ := done
    exact wpAny_execs_nil ⟨p, q, J.ofTry ok, k⟩
  · obtain ⟨p, q, J, k⟩ := done
    exact ⟨p, q, J.ofTry ok, k⟩
  · obtain ⟨p, q, J, k⟩ := done
    exact ⟨p, q, J.ofTry ok, k⟩
  · obtain ⟨v, p, q, J, r, k⟩ := done
    exact ⟨v, p, q, J.ofTry ok, r, k⟩
end L2.PKR
/-! isinstance(e, C), e a caught error of an own class with fields -/
namespace L2.PKR
open PySem PySem.Spec PyProof.Rows
def rIsX (K : PySem.W.Frag) (a : Addr) (cls : Value) (d : Option Addr) : List V → Hp → VK → Prop := fun xs H Q =>
  ∃ (c : V) (cv : Value) (yes : Bool) (D dd : Addr) (fs : List (Str × V)), xs = [.ref a, c] ∧ (∀ u, RelV c u → u = cv) ∧ cls = .ref D ∧ d = some dd ∧ H dd = some (.xd fs) ∧ ExcC K D ∧ PySem.W.kitOne K (.ref D) cv = some yes ∧ Q (.bl yes) H
theorem call_isX {X : Cx} {a : Addr} {oe : Obj} {cls : Value} {d : Option Addr} {pn : List (Addr × Obj)} (hz : Zc cls d oe) (hf : ∃ vs, oe.data = .fields vs) : CallR (X.suite a ((a, oe) :: pn)) (.builtin "isinstance") (rIsX X.K a cls d) := by
  intro pins s σ H xs us Q I r h
  obtain ⟨c, cv, yes, D, dd, fs, rfl, hcv, rfl, rfl, hx, C, hk, q⟩ := h
  rcases r with _ | ⟨rx, rr⟩
  rcases rr with _ | ⟨rc, rr⟩
  cases rr
  cases rx
  cases hcv _ rc
  have at_a := (I.pin (a, oe) (List.mem_append_left _ (.head _))).1
  obtain ⟨vs, hd⟩ := hf
  obtain ⟨mA, hns, _⟩ := (show ObjOk X.prog X.w H s.heap dd (.xd fs) from I.hok dd _ hx)
  obtain ⟨od, ho, _⟩ := lookIn_ns hns
  have J : PySem.W.InstAt s.heap a oe D (some od) := ⟨at_a, hz.1, by unfold PySem.W.notCls; rw [hd] <;> rfl, by rw [hz.2]; exact ho⟩
  obtain ⟨cd, hcd, _⟩ := PySem.W.any_some C.hd
  exact PySem.W.kia_one (PySem.W.kitx_exc (by rw [hcd]; rfl) C.hg C.hk C.hs C.ha C.hn C.ht C.hm) I.kIn J hk (fun e => nomatch e) fun tk => ⟨.bl yes, H, I.kept (t' := tk) fun _ _ k => k, rfl, q⟩
end L2.PKR
namespace PKZ
open PySem PySem.Spec PyProof.Rows L2
/-! zip of a list or a tuple with a list or a tuple, collected -/
inductive Kd where | l | t
def Kd.It : Kd → Heap → Addr → Addr → Nat → Prop
  | .l, h, i, a, k => h.IsListIter i a k
  | .t, h, i, a, k => h.IsTupleIter i a k
def Kd.Sq : Kd → Heap → Addr → Array Value → Prop
  | .l, h, a, xs => h.IsList a xs
  | .t, h, a, xs => h.IsTuple a xs
section
variable {prog : Program} {w : World} {A : Around} {E : Value → Shared → Prop} {s : Shared}
theorem Kd.it_at {kd : Kd} {h h' : Heap} {i a : Addr} {k : Nat} (q : kd.It h i a k) (e : ∀ o, h.get? i = some o → h'.get? i = some o) : kd.It h' i a k := by
  cases kd with
  | l => exact Heap.IsListIter.at q e
  | t => exact Heap.IsTupleIter.at q e
theorem Kd.sq_at {kd : Kd} {h h' : Heap} {a : Addr} {xs : Array Value} (q : kd.Sq h a xs) (e : ∀ o, h.get? a = some o → h'.get? a = some o) : kd.Sq h' a xs := by
  cases kd with
  | l => exact Heap.IsList.at q e
  | t => exact Heap.IsTuple.at q e
theorem nx_item {kd : Kd} {i a : Addr} {k : Nat} {xs : Array Value} {x : Value} {Q : Value → Shared → Prop} (q : kd.It s.heap i a k) (q2 : kd.Sq s.heap a xs) (hx : xs[k]? = some x)
    (hQ : ∀ h', kd.It h' i a (k + 1) → Heap.SameBut i s.heap h' → Q x { s with heap := h' }) : wpAny (model prog w) A (Builtin.SmallTypes.nextOf (.ref i)) Q E s := by
  cases kd with
  | l => exact wpAny_nextOf_list_item q q2 hx hQ
  | t => exact RZ.nextOf_tuple_item q q2 hx hQ
theorem nx_end {kd : Kd} {i a : Addr} {k : Nat} {xs : Array Value} {Q : Value → Shared → Prop} (hh : A.handled = none) (q : kd.It s.heap i a k) (q2 : kd.Sq s.heap a xs) (hx : xs[k]? = none)
    (hE : ∀ h' e, Heap.ExtBut i s.heap h' → (∃ o, h'.get? e = some o ∧ o.cls = .type "StopIteration") → E (.ref e) { s with heap := h' }) : wpAny (model prog w) A (Builtin.SmallTypes.nextOf (.ref i)) Q E s := by
  cases kd with
  | l => exact wpAny_nextOf_list_end hh q q2 hx hE
  | t => exact RZ.nextOf_tuple_end hh q q2 hx hE
theorem Kd.it_get {kd : Kd} {h : Heap} {i a : Addr} {k : Nat} (q : kd.It h i a k) : ∃ o, h.get? i = some o ∧ ∀ v, o.data ≠ .cell v := by
  cases kd with
  | l => obtain ⟨o, e, _, d⟩ := q; exact ⟨o, e, fun v z => by rw [d] at z; cases z⟩
  | t => obtain ⟨o, e, _, d⟩ := q; exact ⟨o, e, fun v z => by rw [d] at z; cases z⟩
/-- a zip object; b: its own pair is held elsewhere -/
abbrev Zo (h : Heap) (z TI TO : Addr) (f0 : Value) (b : Bool) : Prop :=
  h.get? z = some { cls := .type "zip", dict := none, data := .fields #[f0, .bool b, .bool false, .ref TI, .ref TO], slots := #[] }
theorem w_alive {M : Model} {a : Addr} {Q : Option Obj → Shared → Prop} (h : Q (s.heap.get? a) s) : wpAny M A (loadIfAlive a) Q E s := fun _ _ _ => h
/-- its own pair is held -/
theorem not_free {z TI TO T0 : Addr} {bb : Bool} {o0 : Obj} {Q : Bool → Shared → Prop} (hz : Zo s.heap z TI TO (rawInt T0) bb) (h0 : s.heap.get? T0 = some o0)
    (hQ : ∀ h', Zo h' z TI TO (rawInt T0) true → Heap.SameBut z s.heap h' → Q false { s with heap := h' }) : wpAny (model prog w) A (Builtin.SmallTypes.ownedTupleIsFree (.ref z)) Q E s := by
  unfold Builtin.SmallTypes.ownedTupleIsFree
  refine wpAny_bind (wpAny_field hz rfl (x := rawInt T0) rfl ?_)
  show wpAny _ _ (loadIfAlive (T0 : Int).toNat >>= _) _ _ _
  refine wpAny_bind (w_alive ?_)
  rw [Int.toNat_natCast, h0]
  show wpAny _ _ (field (.ref z) 1 >>= _) _ _ _
  refine wpAny_bind (wpAny_field hz rfl (x := .bool bb) rfl ?_)
  cases bb with
  | true => exact wpAny_pure (hQ _ hz ⟨rfl, fun _ _ => rfl⟩)
  | false =>
    show wpAny _ _ (setField (.ref z) 1 (.bool true) >>= _) _ _ _
    exact wpAny_bind (wpAny_setField_rec hz (by simp) fun h1 e1 e2 => wpAny_pure (hQ h1 e1 e2))
/-- its next pair, its own one being held -/
theorem held_item {ka kb : Kd} {z TI TO i1 i2 l1 l2 T0 : Addr} {n m : Nat} {bb : Bool} {xs ys : Array Value} {x y : Value} {o0 : Obj} {Q : Value → Shared → Prop} (D : ZipApart z TI TO i1 i2 l1 l2)
    (hz : Zo s.heap z TI TO (rawInt T0) bb) (h0 : s.heap.get? T0 = some o0) (hTI : IsPair s.heap TI (.ref i1) (.ref i2))
    (h1 : ka.It s.heap i1 l1 n) (h2 : kb.It s.heap i2 l2 m) (q1 : ka.Sq s.heap l1 xs) (q2 : kb.Sq s.heap l2 ys) (hx : xs[n]? = some x) (hy : ys[m]? = some y)
    (hQ : ∀ h', Zo h' z TI TO (rawInt T0) true → ka.It h' i1 l1 (n + 1) → kb.It h' i2 l2 (m + 1) → IsPair h' s.heap.objs.size x y → h'.objs.size = s.heap.objs.size + 1 →
      (∀ c o, c ≠ z → c ≠ i1 → c ≠ i2 → s.heap.get? c = some o → h'.get? c = some o) → Q (.ref s.heap.objs.size) { s with heap := h' }) :
    wpAny (model prog w) A (Builtin.«zip.__next__» ⟨[.ref z], []⟩) (fun fin s' => ∃ v, fin = .done (.ret v) ∧ Q v s') E s := by
  show wpAny _ _ (field (.ref z) 2 >>= _) _ _ _
  refine wpAny_bind (wpAny_field hz rfl (x := .bool false) rfl ?_)
  show wpAny _ _ (field (.ref z) 3 >>= _) _ _ _
  refine wpAny_bind (wpAny_field hz rfl (x := .ref TI) rfl (wpAny_bind (wpAny_seqItems hTI rfl ?_)))
  show wpAny _ _ (Builtin.SmallTypes.ownedTupleIsFree (.ref z) >>= _) _ _ _
  refine wpAny_bind (not_free hz h0 fun g1 z1 e1 => ?_)
  rw [if_neg Bool.false_ne_true]
  dsimp only
  refine wpAny_bind ?_
  rw [← Array.forIn_toList]
  simp only [List.forIn_cons, List.forIn_nil]
  refine wpAny_bind (wpAny_bind (wpAny_holding ?_))
  have a1 : ka.It g1 i1 l1 n := Kd.it_at h1 fun o q => e1.extBut _ _ D.i1z q
  have b1 : ka.Sq g1 l1 xs := Kd.sq_at q1 fun o q => e1.extBut _ _ D.l1z q
  show wpAny _ _ (Builtin.SmallTypes.nextOf (.ref i1) >>= _) _ _ _
  refine wpAny_bind (nx_item a1 b1 hx fun g2 a2 e2 => wpAny_pure (wpAny_pure ?_))
  dsimp only
  refine wpAny_bind (wpAny_bind (wpAny_holding ?_))
  have a3 : kb.It g2 i2 l2 m := Kd.it_at h2 fun o q => e2.extBut _ _ D.i12.symm (e1.extBut _ _ D.i2z q)
  have b3 : kb.Sq g2 l2 ys := Kd.sq_at q2 fun o q => e2.extBut _ _ D.l2i1 (e1.extBut _ _ D.l2z q)
  show wpAny _ _ (Builtin.SmallTypes.nextOf (.ref i2) >>= _) _ _ _
  refine wpAny_bind (nx_item a3 b3 hy fun g3 a4 e3 => wpAny_pure (wpAny_pure (wpAny_pure ?_)))
  have sz : g3.objs.size = s.heap.objs.size := e3.1.trans (e2.1.trans e1.1)
  have kp : ∀ c o, c ≠ z → c ≠ i1 → c ≠ i2 → s.heap.get? c = some o → g3.get? c = some o := fun c o c1 c2 c3 q => e3.extBut _ _ c3 (e2.extBut _ _ c2 (e1.extBut _ _ c1 q))
  have z3 : Zo g3 z TI TO (rawInt T0) true := e3.extBut _ _ D.i2z.symm (e2.extBut _ _ D.i1z.symm z1)
  show wpAny _ _ (newTuple [x, y] >>= _) _ _ _
  refine wpAny_bind (wpAny_newTuple (wpAny_pure ⟨_, rfl, ?_⟩))
  dsimp only
  rw [sz]
  refine hQ _ (Heap.get?_push_of_some _ z3) (Kd.it_at a2 fun o q => Heap.get?_push_of_some _ (e3.extBut _ _ D.i12 q)) (Kd.it_at a4 fun o q => Heap.get?_push_of_some _ q) ?_ (by rw [Heap.size_push, sz]) fun c o c1 c2 c3 q => Heap.get?_push_of_some _ (kp c o c1 c2 c3 q)
  rw [← sz]
  exact Heap.get?_push_size _ rfl
/-- one of the two is at its end, the own pair being held -/
theorem held_end {ka kb : Kd} {z TI TO i1 i2 l1 l2 T0 : Addr} {n m : Nat} {bb : Bool} {xs ys : Array Value} {o0 : Obj} {Q : PySem.Fin → Shared → Prop} (hh : A.handled = none) (D : ZipApart z TI TO i1 i2 l1 l2)
    (hz : Zo s.heap z TI TO (rawInt T0) bb) (h0 : s.heap.get? T0 = some o0) (hTI : IsPair s.heap TI (.ref i1) (.ref i2))
    (h1 : ka.It s.heap i1 l1 n) (h2 : kb.It s.heap i2 l2 m) (q1 : ka.Sq s.heap l1 xs) (q2 : kb.Sq s.heap l2 ys) (hend : xs[n]? = none ∨ ys[m]? = none)
    (hE : ∀ h' e, (∀ c o, c ≠ z → c ≠ i1 → c ≠ i2 → s.heap.get? c = some o → h'.get? c = some o) → (∃ o, h'.get? e = some o ∧ o.cls = .type "StopIteration") → E (.ref e) { s with heap := h' }) :
    wpAny (model prog w) A (Builtin.«zip.__next__» ⟨[.ref z], []⟩) Q E s := by
  show wpAny _ _ (field (.ref z) 2 >>= _) _ _ _
  refine wpAny_bind (wpAny_field hz rfl (x := .bool false) rfl ?_)
  show wpAny _ _ (field (.ref z) 3 >>= _) _ _ _
  refine wpAny_bind (wpAny_field hz rfl (x := .ref TI) rfl (wpAny_bind (wpAny_seqItems hTI rfl ?_)))
  show wpAny _ _ (Builtin.SmallTypes.ownedTupleIsFree (.ref z) >>= _) _ _ _
  refine wpAny_bind (not_free hz h0 fun g1 z1 e1 => ?_)
  rw [if_neg Bool.false_ne_true]
  dsimp only
  refine wpAny_bind ?_
  rw [← Array.forIn_toList]
  simp only [List.forIn_cons, List.forIn_nil]
  refine wpAny_bind (wpAny_bind (wpAny_holding ?_))
  have a1 : ka.It g1 i1 l1 n := Kd.it_at h1 fun o q => e1.extBut _ _ D.i1z q
  have b1 : ka.Sq g1 l1 xs := Kd.sq_at q1 fun o q => e1.extBut _ _ D.l1z q
  show wpAny _ _ (Builtin.SmallTypes.nextOf (.ref i1) >>= _) _ _ _
  cases hx : xs[n]? with
  | none => exact wpAny_bind (nx_end hh a1 b1 hx fun g2 e e2 he => hE g2 e (fun c o c1 c2 c3 q => e2 _ _ c2 (e1.extBut _ _ c1 q)) he)
  | some x =>
    have hy : ys[m]? = none := hend.resolve_left fun q => by rw [hx] at q; cases q
    refine wpAny_bind (nx_item a1 b1 hx fun g2 a2 e2 => wpAny_pure (wpAny_pure ?_))
    dsimp only
    refine wpAny_bind (wpAny_bind (wpAny_holding ?_))
    have a3 : kb.It g2 i2 l2 m := Kd.it_at h2 fun o q => e2.extBut _ _ D.i12.symm (e1.extBut _ _ D.i2z q)
    have b3 : kb.Sq g2 l2 ys := Kd.sq_at q2 fun o q => e2.extBut _ _ D.l2i1 (e1.extBut _ _ D.l2z q)
    show wpAny _ _ (Builtin.SmallTypes.nextOf (.ref i2) >>= _) _ _ _
    exact wpAny_bind (nx_end hh a3 b3 hy fun g3 e e3 he => hE g3 e (fun c o c1 c2 c3 q => e3 _ _ c3 (e2.extBut _ _ c2 (e1.extBut _ _ c1 q))) he)
/-- its own pair is free -/
theorem is_free {z TI TO : Addr} {Q : Bool → Shared → Prop} (hz : Zo s.heap z TI TO .none false) (hQ : Q true s) : wpAny (model prog w) A (Builtin.SmallTypes.ownedTupleIsFree (.ref z)) Q E s := by
  unfold Builtin.SmallTypes.ownedTupleIsFree
  exact wpAny_bind (wpAny_field hz rfl (x := .none) rfl (wpAny_pure hQ))
/-- its next pair, its own one being free -/
theorem free_item {ka kb : Kd} {z TI TO i1 i2 l1 l2 : Addr} {n m : Nat} {xs ys : Array Value} {x y p0 p1 : Value} {Q : Value → Shared → Prop} (D : ZipApart z TI TO i1 i2 l1 l2)
    (hz : Zo s.heap z TI TO .none false) (hTI : IsPair s.heap TI (.ref i1) (.ref i2)) (hTO : IsPair s.heap TO p0 p1)
    (h1 : ka.It s.heap i1 l1 n) (h2 : kb.It s.heap i2 l2 m) (q1 : ka.Sq s.heap l1 xs) (q2 : kb.Sq s.heap l2 ys) (hx : xs[n]? = some x) (hy : ys[m]? = some y)
    (hQ : ∀ h', Zo h' z TI TO (rawInt s.heap.objs.size) false → IsPair h' TO x y → ka.It h' i1 l1 (n + 1) → kb.It h' i2 l2 (m + 1) → IsPair h' s.heap.objs.size x y → h'.objs.size = s.heap.objs.size + 1 →
      (∀ c o, c ≠ z → c ≠ TO → c ≠ i1 → c ≠ i2 → s.heap.get? c = some o → h'.get? c = some o) → Q (.ref s.heap.objs.size) { s with heap := h' }) :
    wpAny (model prog w) A (Builtin.«zip.__next__» ⟨[.ref z], []⟩) (fun fin s' => ∃ v, fin = .done (.ret v) ∧ Q v s') E s := by
  show wpAny _ _ (field (.ref z) 2 >>= _) _ _ _
  refine wpAny_bind (wpAny_field hz rfl (x := .bool false) rfl ?_)
  show wpAny _ _ (field (.ref z) 3 >>= _) _ _ _
  refine wpAny_bind (wpAny_field hz rfl (x := .ref TI) rfl (wpAny_bind (wpAny_seqItems hTI rfl ?_)))
  show wpAny _ _ (Builtin.SmallTypes.ownedTupleIsFree (.ref z) >>= _) _ _ _
  refine wpAny_bind (is_free hz ?_)
  rw [if_pos rfl]
  refine wpAny_bind (wpAny_rule (wpAny_bind (wpAny_field hz rfl (x := .ref TO) rfl (wpAny_bind (wpAny_setField_rec hz (by simp) fun g1 z1 e1 => ?_)))))
  have z1 : Zo g1 z TI TO .ellipsis false := z1
  refine wpAny_bind ?_
  simp only [List.zipIdx_cons, List.zipIdx_nil, List.forIn_cons, List.forIn_nil]
  refine wpAny_bind (wpAny_bind (wpAny_onRaise ?_))
  have a1 : ka.It g1 i1 l1 n := Kd.it_at h1 fun o q => e1.extBut _ _ D.i1z q
  have b1 : ka.Sq g1 l1 xs := Kd.sq_at q1 fun o q => e1.extBut _ _ D.l1z q
  show wpAny _ _ (Builtin.SmallTypes.nextOf (.ref i1) >>= _) _ _ _
  refine wpAny_bind (nx_item a1 b1 hx fun g2 a2 e2 => wpAny_pure ?_)
  have t2 : IsPair g2 TO p0 p1 := e2.extBut _ _ D.TOi1 (e1.extBut _ _ D.TOz hTO)
  refine wpAny_bind (wpAny_seqItems t2 rfl (wpAny_bind (wpAny_updateSeq_pair t2 fun g3 t3 e3 => wpAny_bind (wpAny_letGo (wpAny_pure ?_)))))
  have t3 : IsPair g3 TO x p1 := t3
  refine wpAny_bind (wpAny_bind (wpAny_onRaise ?_))
  have a3 : kb.It g3 i2 l2 m := Kd.it_at h2 fun o q => e3.extBut _ _ D.TOi2.symm (e2.extBut _ _ D.i12.symm (e1.extBut _ _ D.i2z q))
  have b3 : kb.Sq g3 l2 ys := Kd.sq_at q2 fun o q => e3.extBut _ _ D.l2TO (e2.extBut _ _ D.l2i1 (e1.extBut _ _ D.l2z q))
  show wpAny _ _ (Builtin.SmallTypes.nextOf (.ref i2) >>= _) _ _ _
  refine wpAny_bind (nx_item a3 b3 hy fun g4 a4 e4 => wpAny_pure ?_)
  have t4 : IsPair g4 TO x p1 := e4.extBut _ _ D.TOi2 t3
  refine wpAny_bind (wpAny_seqItems t4 rfl (wpAny_bind (wpAny_updateSeq_pair t4 fun g5 t5 e5 => wpAny_bind (wpAny_letGo (wpAny_pure (wpAny_pure ?_))))))
  have t5 : IsPair g5 TO x y := t5
  refine wpAny_bind (wpAny_seqItems t5 rfl (wpAny_bind (wpAny_newTuple ?_)))
  have sz : g5.objs.size = s.heap.objs.size := e5.1.trans (e4.1.trans (e3.1.trans (e2.1.trans e1.1)))
  have z5 : Zo g5 z TI TO .ellipsis false := e5.extBut _ _ D.TOz.symm (e4.extBut _ _ D.i2z.symm (e3.extBut _ _ D.TOz.symm (e2.extBut _ _ D.i1z.symm z1)))
  have kp : ∀ c o, c ≠ z → c ≠ TO → c ≠ i1 → c ≠ i2 → s.heap.get? c = some o → g5.get? c = some o := fun c o c1 c2 c3 c4 q =>
    e5.extBut _ _ c2 (e4.extBut _ _ c4 (e3.extBut _ _ c2 (e2.extBut _ _ c3 (e1.extBut _ _ c1 q))))
  have k1 : ka.It g5 i1 l1 (n + 1) := Kd.it_at a2 fun o q => e5.extBut _ _ D.TOi1.symm (e4.extBut _ _ D.i12 (e3.extBut _ _ D.TOi1.symm q))
  have k2 : kb.It g5 i2 l2 (m + 1) := Kd.it_at a4 fun o q => e5.extBut _ _ D.TOi2.symm q
  have zl : z < g5.objs.size := Heap.lt_size z5
  show wpAny _ _ (Builtin.SmallTypes.ownedTupleHandOut (.ref z) (.ref g5.objs.size) >>= _) _ _ _
  refine wpAny_bind ?_
  unfold Builtin.SmallTypes.ownedTupleHandOut
  have z6 : Zo (g5.push { cls := .type "tuple", data := .seq #[x, y] }) z TI TO .ellipsis false := Heap.get?_push_of_some _ z5
  refine wpAny_bind (wpAny_setField_rec z6 (by simp) fun g7 z7 e7 => wpAny_setField_rec (show Zo g7 z TI TO (rawInt g5.objs.size) false from z7) (by simp) fun g8 z8 e8 => wpAny_pure ⟨_, rfl, ?_⟩)
  have up : ∀ c o, c ≠ z → g5.get? c = some o → g8.get? c = some o := fun c o c1 q => e8.extBut _ _ c1 (e7.extBut _ _ c1 (Heap.get?_push_of_some _ q))
  have t8 : IsPair g8 g5.objs.size x y := e8.extBut _ _ (Nat.ne_of_gt zl) (e7.extBut _ _ (Nat.ne_of_gt zl) (Heap.get?_push_size _ rfl))
  have s8 : g8.objs.size = g5.objs.size + 1 := by rw [e8.1, e7.1, Heap.size_push]
  have z8 : Zo g8 z TI TO (rawInt g5.objs.size) false := z8
  show Q (.ref g5.objs.size) _
  rw [sz] at z8 t8 s8 ⊢
  exact hQ g8 z8 (up _ _ D.TOz t5) (Kd.it_at k1 fun o q => up _ o D.i1z q) (Kd.it_at k2 fun o q => up _ o D.i2z q) t8 s8 fun c o c1 c2 c3 c4 q => up c o c1 (kp c o c1 c2 c3 c4 q)
theorem free_end {ka kb : Kd} {z TI TO i1 i2 l1 l2 : Addr} {n m : Nat} {xs ys : Array Value} {p0 p1 : Value} {Q : PySem.Fin → Shared → Prop} (hh : A.handled = none) (D : ZipApart z TI TO i1 i2 l1 l2)
    (hz : Zo s.heap z TI TO .none false) (hTI : IsPair s.heap TI (.ref i1) (.ref i2)) (hTO : IsPair s.heap TO p0 p1)
    (h1 : ka.It s.heap i1 l1 n) (h2 : kb.It s.heap i2 l2 m) (q1 : ka.Sq s.heap l1 xs) (q2 : kb.Sq s.heap l2 ys) (hend : xs[n]? = none ∨ ys[m]? = none)
    (hE : ∀ h' e, (∀ c o, c ≠ z → c ≠ TO → c ≠ i1 → c ≠ i2 → s.heap.get? c = some o → h'.get? c = some o) → (∃ o, h'.get? e = some o ∧ o.cls = .type "StopIteration") → E (.ref e) { s with heap := h' }) :
    wpAny (model prog w) A (Builtin.«zip.__next__» ⟨[.ref z], []⟩) Q E s := by
  show wpAny _ _ (field (.ref z) 2 >>= _) _ _ _
  refine wpAny_bind (wpAny_field hz rfl (x := .bool false) rfl ?_)
  show wpAny _ _ (field (.ref z) 3 >>= _) _ _ _
  refine wpAny_bind (wpAny_field hz rfl (x := .ref TI) rfl (wpAny_bind (wpAny_seqItems hTI rfl ?_)))
  show wpAny _ _ (Builtin.SmallTypes.ownedTupleIsFree (.ref z) >>= _) _ _ _
  refine wpAny_bind (is_free hz ?_)
  rw [if_pos rfl]
  refine wpAny_bind (wpAny_rule (wpAny_bind (wpAny_field hz rfl (x := .ref TO) rfl (wpAny_bind (wpAny_setField_rec hz (by simp) fun g1 z1 e1 => ?_)))))
  have z1 : Zo g1 z TI TO .ellipsis false := z1
  refine wpAny_bind ?_
  simp only [List.zipIdx_cons, List.zipIdx_nil, List.forIn_cons, List.forIn_nil]
  refine wpAny_bind (wpAny_bind (wpAny_onRaise ?_))
  have a1 : ka.It g1 i1 l1 n := Kd.it_at h1 fun o q => e1.extBut _ _ D.i1z q
  have b1 : ka.Sq g1 l1 xs := Kd.sq_at q1 fun o q => e1.extBut _ _ D.l1z q
  show wpAny _ _ (Builtin.SmallTypes.nextOf (.ref i1) >>= _) _ _ _
  cases hx : xs[n]? with
  | none =>
    refine wpAny_bind (nx_end hh a1 b1 hx fun g2 e e2 ⟨oe, he, hc⟩ => ?_)
    have z2 : Zo g2 z TI TO .ellipsis false := e2 _ _ D.i1z.symm z1
    have ne : e ≠ z := fun q => by rw [q, z2] at he; cases he; simp at hc
    exact wpAny_setField_rec z2 (by simp) fun g3 _ e3 => hE g3 e (fun c o c1 _ c3 _ q => e3.extBut _ _ c1 (e2 _ _ c3 (e1.extBut _ _ c1 q))) ⟨oe, e3.extBut _ _ ne he, hc⟩
  | some x =>
    have hy : ys[m]? = none := hend.resolve_left fun q => by rw [hx] at q; cases q
    refine wpAny_bind (nx_item a1 b1 hx fun g2 a2 e2 => wpAny_pure ?_)
    have t2 : IsPair g2 TO p0 p1 := e2.extBut _ _ D.TOi1 (e1.extBut _ _ D.TOz hTO)
    refine wpAny_bind (wpAny_seqItems t2 rfl (wpAny_bind (wpAny_updateSeq_pair t2 fun g3 t3 e3 => wpAny_bind (wpAny_letGo (wpAny_pure ?_)))))
    refine wpAny_bind (wpAny_bind (wpAny_onRaise ?_))
    have a3 : kb.It g3 i2 l2 m := Kd.it_at h2 fun o q => e3.extBut _ _ D.TOi2.symm (e2.extBut _ _ D.i12.symm (e1.extBut _ _ D.i2z q))
    have b3 : kb.Sq g3 l2 ys := Kd.sq_at q2 fun o q => e3.extBut _ _ D.l2TO (e2.extBut _ _ D.l2i1 (e1.extBut _ _ D.l2z q))
    show wpAny _ _ (Builtin.SmallTypes.nextOf (.ref i2) >>= _) _ _ _
    refine wpAny_bind (nx_end hh a3 b3 hy fun g4 e e4 ⟨oe, he, hc⟩ => ?_)
    have z4 : Zo g4 z TI TO .ellipsis false := e4 _ _ D.i2z.symm (e3.extBut _ _ D.TOz.symm (e2.extBut _ _ D.i1z.symm z1))
    have ne : e ≠ z := fun q => by rw [q, z4] at he; cases he; simp at hc
    exact wpAny_setField_rec z4 (by simp) fun g5 _ e5 => hE g5 e (fun c o c1 c2 c3 c4 q => e5.extBut _ _ c1 (e4 _ _ c4 (e3.extBut _ _ c2 (e2.extBut _ _ c3 (e1.extBut _ _ c1 q))))) ⟨oe, e5.extBut _ _ ne he, hc⟩
end
end PKZ
namespace PKZ
open PySem PySem.Spec PyProof.Rows L2
/-- the pairs that were drawn, at their places -/
structure Prs (xs ys : Array Value) (lo : Addr) (h : Heap) (as : List Addr) : Prop where
  rise : as.Pairwise (· < ·)
  above : ∀ a ∈ as, lo ≤ a
  there : ∀ a ∈ as, a < h.objs.size
  at_ : ∀ (j : Nat) (a : Addr), as[j]? = some a → ∃ x y, xs[j]? = some x ∧ ys[j]? = some y ∧ IsPair h a x y
/-- a zip of two, i pairs drawn -/
structure ZSt (ka kb : Kd) (z TI TO i1 i2 l1 l2 : Addr) (xs ys : Array Value) (i : Nat) (h : Heap) : Prop where
  ti : IsPair h TI (.ref i1) (.ref i2)
  to : ∃ a b, IsPair h TO a b
  it1 : ka.It h i1 l1 i
  it2 : kb.It h i2 l2 i
  sq1 : ka.Sq h l1 xs
  sq2 : kb.Sq h l2 ys
  zo : Zo h z TI TO .none false ∨ ∃ (T0 : Addr) (o0 : Obj) (bb : Bool), Zo h z TI TO (rawInt T0) bb ∧ h.get? T0 = some o0 ∧ T0 ≠ z ∧ T0 ≠ TO ∧ T0 ≠ i1 ∧ T0 ≠ i2
section
variable {prog : Program} {w : World} {A : Around} {E : Value → Shared → Prop} {s : Shared} {ka kb : Kd} {z TI TO i1 i2 l1 l2 : Addr} {xs ys : Array Value} {i : Nat}
theorem ZSt.zip {h : Heap} (Z : ZSt ka kb z TI TO i1 i2 l1 l2 xs ys i h) : ∃ o, h.get? z = some o ∧ o.cls = .type "zip" := by
  rcases Z.zo with q | ⟨T0, o0, bb, q, _⟩
  · exact ⟨_, q, rfl⟩
  · exact ⟨_, q, rfl⟩
theorem ZSt.type {h : Heap} (Z : ZSt ka kb z TI TO i1 i2 l1 l2 xs ys i h) {s : Shared} (e : s.heap = h) : s.TypeIs (.ref z) "zip" := by
  obtain ⟨o, q, c⟩ := Z.zip
  exact ⟨o, by rw [e]; exact q, c⟩
theorem ZSt.keep {h h' : Heap} (Z : ZSt ka kb z TI TO i1 i2 l1 l2 xs ys i h) {S : Addr} (hS : S ≠ z ∧ S ≠ TI ∧ S ≠ TO ∧ S ≠ i1 ∧ S ≠ i2 ∧ S ≠ l1 ∧ S ≠ l2) (k : ∀ b o, b ≠ S → h.get? b = some o → h'.get? b = some o) (kS : ∀ o, h.get? S = some o → ∃ o', h'.get? S = some o') :
    ZSt ka kb z TI TO i1 i2 l1 l2 xs ys i h' := by
  obtain ⟨a, b, c, d, e, f, g⟩ := hS
  refine ⟨k _ _ b.symm Z.ti, ?_, Kd.it_at Z.it1 fun o q => k _ _ d.symm q, Kd.it_at Z.it2 fun o q => k _ _ e.symm q, Kd.sq_at Z.sq1 fun o q => k _ _ f.symm q, Kd.sq_at Z.sq2 fun o q => k _ _ g.symm q, ?_⟩
  · obtain ⟨u, v, q⟩ := Z.to
    exact ⟨u, v, k _ _ c.symm q⟩
  · rcases Z.zo with q | ⟨T0, o0, bb, q, q0, n1⟩
    · exact .inl (k _ _ a.symm q)
    · by_cases e0 : T0 = S
      · subst e0
        obtain ⟨o', q'⟩ := kS _ q0
        exact .inr ⟨T0, o', bb, k _ _ a.symm q, q', n1⟩
      · exact .inr ⟨T0, o0, bb, k _ _ a.symm q, k _ _ e0 q0, n1⟩
/-- a pair is drawn -/
theorem zst_item {x y : Value} {Q : Option Value → Shared → Prop} (D : ZipApart z TI TO i1 i2 l1 l2) (Z : ZSt ka kb z TI TO i1 i2 l1 l2 xs ys i s.heap) (hx : xs[i]? = some x) (hy : ys[i]? = some y)
    (hQ : ∀ h', ZSt ka kb z TI TO i1 i2 l1 l2 xs ys (i + 1) h' → IsPair h' s.heap.objs.size x y → h'.objs.size = s.heap.objs.size + 1 →
      (∀ c o, c ≠ z → c ≠ TO → c ≠ i1 → c ≠ i2 → s.heap.get? c = some o → h'.get? c = some o) → Q (some (.ref s.heap.objs.size)) { s with heap := h' }) :
    wpAny (model prog w) A (pyNext (.ref z)) Q E s := by
  have hT := Z.type (s := s) rfl
  obtain ⟨u, v, hTO⟩ := Z.to
  have zl : z < s.heap.objs.size := by obtain ⟨o, q, _⟩ := Z.zip; exact Heap.lt_size q
  have TOl : TO < s.heap.objs.size := Heap.lt_size hTO
  have i1l : i1 < s.heap.objs.size := by obtain ⟨o, q, _⟩ := Kd.it_get Z.it1; exact Heap.lt_size q
  have i2l : i2 < s.heap.objs.size := by obtain ⟨o, q, _⟩ := Kd.it_get Z.it2; exact Heap.lt_size q
  unfold pyNext
  refine wpAny_bind (wpAny_attempt (wpAny_callSpecial?_slot (name := Str.ofString "__next__") hT F.slot_zip_next (wpAny_call_entry F.slot_zip_next hT F.entry_zip_next ?_ (F.args_zip_next_1 _))))
  rcases Z.zo with q | ⟨T0, o0, bb, q, q0, n1, n2, n3, n4⟩
  · exact free_item D q Z.ti hTO Z.it1 Z.it2 Z.sq1 Z.sq2 hx hy fun h' c1 c2 c3 c4 c5 c6 c7 => wpAny_pure (hQ h' ⟨c7 _ _ D.TIz D.TITO D.TIi1 D.TIi2 Z.ti, ⟨_, _, c2⟩, c3, c4, Kd.sq_at Z.sq1 fun o p => c7 _ _ D.l1z D.l1TO D.l1i1 D.l1i2 p, Kd.sq_at Z.sq2 fun o p => c7 _ _ D.l2z D.l2TO D.l2i1 D.l2i2 p,
      .inr ⟨_, _, _, c1, c5, Nat.ne_of_gt zl, Nat.ne_of_gt TOl, Nat.ne_of_gt i1l, Nat.ne_of_gt i2l⟩⟩ c5 c6 c7)
  · exact held_item D q q0 Z.ti Z.it1 Z.it2 Z.sq1 Z.sq2 hx hy fun h' c1 c3 c4 c5 c6 c7 => wpAny_pure (hQ h' ⟨c7 _ _ D.TIz D.TIi1 D.TIi2 Z.ti, ⟨_, _, c7 _ _ D.TOz D.TOi1 D.TOi2 hTO⟩, c3, c4, Kd.sq_at Z.sq1 fun o p => c7 _ _ D.l1z D.l1i1 D.l1i2 p, Kd.sq_at Z.sq2 fun o p => c7 _ _ D.l2z D.l2i1 D.l2i2 p,
      .inr ⟨T0, o0, true, c1, c7 _ _ n1 n3 n4 q0, n1, n2, n3, n4⟩⟩ c5 c6 fun c o d1 _ d3 d4 p => c7 c o d1 d3 d4 p)
/-- one of the two is at its end -/
theorem zst_done {Q : Option Value → Shared → Prop} (hh : A.handled = none) (D : ZipApart z TI TO i1 i2 l1 l2) (Z : ZSt ka kb z TI TO i1 i2 l1 l2 xs ys i s.heap) (hend : xs[i]? = none ∨ ys[i]? = none)
    (hQ : ∀ h', (∀ c o, c ≠ z → c ≠ TO → c ≠ i1 → c ≠ i2 → s.heap.get? c = some o → h'.get? c = some o) → Q none { s with heap := h' }) : wpAny (model prog w) A (pyNext (.ref z)) Q E s := by
  have hT := Z.type (s := s) rfl
  obtain ⟨u, v, hTO⟩ := Z.to
  have stop : ∀ h' e, (∀ c o, c ≠ z → c ≠ TO → c ≠ i1 → c ≠ i2 → s.heap.get? c = some o → h'.get? c = some o) → (∃ o, h'.get? e = some o ∧ o.cls = .type "StopIteration") →
      wpAny (model prog w) A (do if (← isInstance (.ref e) (.type "StopIteration")) = true then pure none else throw (.ref e)) Q E { s with heap := h' } := fun h' e k ⟨o, ho, hc⟩ =>
    wpAny_bind (wpAny_isInstance (T := "StopIteration") (b := true) ⟨o, ho, hc⟩ isSubtype_stop (wpAny_pure (hQ _ k)))
  unfold pyNext
  refine wpAny_bind (wpAny_attempt (wpAny_callSpecial?_slot (name := Str.ofString "__next__") hT F.slot_zip_next (wpAny_call_entry F.slot_zip_next hT F.entry_zip_next ?_ (F.args_zip_next_1 _))))
  rcases Z.zo with q | ⟨T0, o0, bb, q, q0, n1, n2, n3, n4⟩
  · exact free_end hh D q Z.ti hTO Z.it1 Z.it2 Z.sq1 Z.sq2 hend stop
  · exact held_end hh D q q0 Z.ti Z.it1 Z.it2 Z.sq1 Z.sq2 hend fun h' e k => stop h' e fun c o d1 _ d3 d4 p => k c o d1 d3 d4 p
theorem zl_loop {S lo : Addr} (hh : A.handled = none) (D : ZipApart z TI TO i1 i2 l1 l2) (hS : S ≠ z ∧ S ≠ TI ∧ S ≠ TO ∧ S ≠ i1 ∧ S ≠ i2 ∧ S ≠ l1 ∧ S ≠ l2) (lowz : z < lo) (lowTO : TO < lo) (low1 : i1 < lo) (low2 : i2 < lo) (lowS : S < lo)
    (hn : min xs.size ys.size ≤ sizeLine) (res : Value) {h₁ : Heap} {R : Result → Shared → Prop}
    (hR : ∀ (h' : Heap) (acc : Array Value) (c : Nat) (as : List Addr), (∀ b o, b ≠ S → b ≠ z → b ≠ TO → b ≠ i1 → b ≠ i2 → h₁.get? b = some o → h'.get? b = some o) → h'.get? S = some { cls := .type "list", dict := none, data := .seq acc c, slots := #[] } → as.length = min xs.size ys.size → Prs xs ys lo h' as →
      acc.toList = as.map Value.ref → R (.ok (.ret res)) { s with heap := h' }) :
    ∀ (k i : Nat) (h : Heap) (c : Nat) (acc : Array Value) (as : List Addr), min xs.size ys.size - i = k → i ≤ min xs.size ys.size → ZSt ka kb z TI TO i1 i2 l1 l2 xs ys i h → (∀ b o, b ≠ S → b ≠ z → b ≠ TO → b ≠ i1 → b ≠ i2 → h₁.get? b = some o → h.get? b = some o) →
      h.get? S = some { cls := .type "list", dict := none, data := .seq acc c, slots := #[] } → acc.toList = as.map Value.ref → as.length = i → Prs xs ys lo h as → lo ≤ h.objs.size →
      codeAny (model prog w) A (.builtin "list.extend.loop" ⟨[.ref S, .ref z, res], []⟩) R { s with heap := h } := by
  intro k
  induction k with
  | zero =>
    intro i h c acc as hk hi Z kp hSo ha hl G hlo
    have hin : i = min xs.size ys.size := by omega
    refine codeAny_builtin F.entry_extend_loop ?_
    (rw [Around.under_plainId F.plain_extend_loop])
    show wpAny _ A.in1 (pyNext (.ref z) >>= _) _ _ _
    have hend : xs[i]? = none ∨ ys[i]? = none := by
      rcases Nat.le_total xs.size ys.size with q | q
      · exact .inl (Array.getElem?_eq_none (by omega))
      · exact .inr (Array.getElem?_eq_none (by omega))
    refine wpAny_bind (zst_done (s := { s with heap := h }) (A := A.in1) hh D Z hend fun h' e => wpAny_pure (hR h' acc c as (fun b o b1 b2 b3 b4 b5 q => e b o b2 b3 b4 b5 (kp b o b1 b2 b3 b4 b5 q)) (e S _ hS.1 hS.2.2.1 hS.2.2.2.1 hS.2.2.2.2.1 hSo) (by omega) ⟨G.rise, G.above, fun a q => ?_, fun j a q => ?_⟩ ha))
    · obtain ⟨j, hj, rfl⟩ := List.getElem_of_mem q
      obtain ⟨x, y, _, _, p⟩ := G.at_ j _ (List.getElem?_eq_getElem hj)
      have lo_a := G.above _ (List.getElem_mem hj)
      exact Heap.lt_size (e _ _ (Nat.ne_of_gt (Nat.lt_of_lt_of_le lowz lo_a)) (Nat.ne_of_gt (Nat.lt_of_lt_of_le lowTO lo_a)) (Nat.ne_of_gt (Nat.lt_of_lt_of_le low1 lo_a)) (Nat.ne_of_gt (Nat.lt_of_lt_of_le low2 lo_a)) p)
    · obtain ⟨x, y, e1, e2, p⟩ := G.at_ j a q
      have lo_a := G.above _ (List.mem_of_getElem? q)
      exact ⟨x, y, e1, e2, e _ _ (Nat.ne_of_gt (Nat.lt_of_lt_of_le lowz lo_a)) (Nat.ne_of_gt (Nat.lt_of_lt_of_le lowTO lo_a)) (Nat.ne_of_gt (Nat.lt_of_lt_of_le low1 lo_a)) (Nat.ne_of_gt (Nat.lt_of_lt_of_le low2 lo_a)) p⟩
  | succ k ih =>
    intro i h c acc as hk hi Z kp hSo ha hl G hlo
    have ix : i < xs.size := by omega
    have iy : i < ys.size := by omega
    have hsz : acc.size = i := by rw [← Array.length_toList, ha, List.length_map, hl]
    refine codeAny_builtin F.entry_extend_loop ?_
    (rw [Around.under_plainId F.plain_extend_loop])
    show wpAny _ A.in1 (pyNext (.ref z) >>= _) _ _ _
    refine wpAny_bind (zst_item (s := { s with heap := h }) (A := A.in1) D Z (Array.getElem?_eq_getElem ix) (Array.getElem?_eq_getElem iy) fun h' Z' p sz e => ?_)
    dsimp only at p sz e ⊢
    have hS' := e S _ hS.1 hS.2.2.1 hS.2.2.2.1 hS.2.2.2.2.1 hSo
    have up : ∀ b o, b ≠ S → h'.get? b = some o → (h'.update S (Obj.mapSeq (·.push (Value.ref h.objs.size)))).get? b = some o := fun b o hb q => (Heap.get?_update_other _ _ (Ne.symm hb)).trans q
    have upS : ∀ o, h'.get? S = some o → ∃ o', (h'.update S (Obj.mapSeq (·.push (Value.ref h.objs.size)))).get? S = some o' := fun o q => ⟨_, Heap.get?_update_self _ hS' rfl⟩
    have Sl : S < h.objs.size := Heap.lt_size hSo
    have far : ∀ a, lo ≤ a → a ≠ z ∧ a ≠ TO ∧ a ≠ i1 ∧ a ≠ i2 ∧ a ≠ S := fun a q => ⟨Nat.ne_of_gt (Nat.lt_of_lt_of_le lowz q), Nat.ne_of_gt (Nat.lt_of_lt_of_le lowTO q), Nat.ne_of_gt (Nat.lt_of_lt_of_le low1 q), Nat.ne_of_gt (Nat.lt_of_lt_of_le low2 q), Nat.ne_of_gt (Nat.lt_of_lt_of_le lowS q)⟩
    have us : (h'.update S (Obj.mapSeq (·.push (Value.ref h.objs.size)))).objs.size = h'.objs.size := Heap.size_update ..
    show wpAny _ A.in1 (updateSeq S (·.push (Value.ref h.objs.size)) >>= _) _ _ _
    refine wpAny_bind (wpAny_updateSeq hS' rfl (wpAny_pure ⟨plainId_quiet F.plain_extend_loop _, ih (i + 1) _ _ (acc.push (Value.ref h.objs.size)) (as ++ [h.objs.size]) (by omega) (by omega) (Z'.keep hS up upS) (fun b o b1 b2 b3 b4 b5 q => up b o b1 (e b o b2 b3 b4 b5 (kp b o b1 b2 b3 b4 b5 q)))
      (Heap.get?_update_self _ hS' rfl) (by rw [Array.toList_push, ha, List.map_append]; rfl) (by rw [List.length_append, hl]; rfl) ⟨?_, ?_, ?_, ?_⟩ ?_⟩) ?_)
    · refine List.pairwise_append.mpr ⟨G.rise, List.pairwise_singleton _ _, fun a q b q2 => ?_⟩
      rw [List.mem_singleton.mp q2]
      exact G.there a q
    · intro a q
      rcases List.mem_append.mp q with q | q
      · exact G.above a q
      · rw [List.mem_singleton.mp q]; exact hlo
    · intro a q
      rw [us, sz]
      rcases List.mem_append.mp q with q | q
      · exact Nat.lt_succ_of_lt (G.there a q)
      · rw [List.mem_singleton.mp q]; exact Nat.lt_succ_self _
    · intro j b q
      by_cases hj : j < as.length
      · rw [List.getElem?_append_left hj] at q
        obtain ⟨x, y, e1, e2, e3⟩ := G.at_ j b q
        obtain ⟨f1, f2, f3, f4, f5⟩ := far b (G.above b (List.mem_of_getElem? q))
        exact ⟨x, y, e1, e2, up b _ f5 (e b _ f1 f2 f3 f4 e3)⟩
      · have hj2 : j = as.length := by
          have := (List.getElem?_eq_some_iff.mp q).1
          rw [List.length_append] at this
          have : j < as.length + 1 := this
          omega
        subst hj2
        have : h.objs.size = b := by simpa using q
        subst this
        exact ⟨xs[i], ys[i], by rw [hl]; exact Array.getElem?_eq_getElem ix, by rw [hl]; exact Array.getElem?_eq_getElem iy, up _ _ (Nat.ne_of_gt Sl) p⟩
    · rw [us, sz]; exact Nat.le_succ_of_le hlo
    · rw [hsz]; omega
theorem zip_nolen : typeLookup (.type "zip") "__len__" = pure none := by
  rw [typeLookup_type, builtinLookup_eq_fast]; kernel_rfl
theorem zip_nohint : typeLookup (.type "zip") "__length_hint__" = pure none := by
  rw [typeLookup_type, builtinLookup_eq_fast]; kernel_rfl
/-- list(zip(..)), S the new list -/
theorem zl_call {Q : Value → Shared → Prop} (hh : A.handled = none) (D : ZipApart z TI TO i1 i2 l1 l2) (Z : ZSt ka kb z TI TO i1 i2 l1 l2 xs ys 0 s.heap) (lTI : TI < s.heap.objs.size) (l1l : l1 < s.heap.objs.size) (l2l : l2 < s.heap.objs.size)
    (hn : min xs.size ys.size ≤ sizeLine)
    (hQ : ∀ (h' : Heap) (acc : Array Value) (c : Nat) (as : List Addr), (∀ b o, b ≠ z → b ≠ TO → b ≠ i1 → b ≠ i2 → s.heap.get? b = some o → h'.get? b = some o) → h'.get? s.heap.objs.size = some { cls := .type "list", dict := none, data := .seq acc c, slots := #[] } →
      as.length = min xs.size ys.size → Prs xs ys (s.heap.objs.size + 1) h' as → acc.toList = as.map Value.ref → Q (.ref s.heap.objs.size) { s with heap := h' }) :
    wpAny (model prog w) A (call (.type "list") [.ref z]) Q E s := by
  have zl : z < s.heap.objs.size := by obtain ⟨o, q, _⟩ := Z.zip; exact Heap.lt_size q
  have TOl : TO < s.heap.objs.size := by obtain ⟨_, _, q⟩ := Z.to; exact Heap.lt_size q
  have i1l : i1 < s.heap.objs.size := by obtain ⟨o, q, _⟩ := Kd.it_get Z.it1; exact Heap.lt_size q
  have i2l : i2 < s.heap.objs.size := by obtain ⟨o, q, _⟩ := Kd.it_get Z.it2; exact Heap.lt_size q
  refine callType_codes (Q₁ := fun obj s₁ => obj = .ref s.heap.objs.size ∧ s₁ = { s with heap := s.heap.push { cls := .type "list", data := .seq #[] } }) F.called_list (F.typeCall_list_1 _) F.entry_list_init (code_list_new _ ⟨rfl, rfl⟩) fun obj s₁ h₁ => ?_
  obtain ⟨rfl, rfl⟩ := h₁
  have hS0 : (s.heap.push { cls := .type "list", data := .seq #[] }).get? s.heap.objs.size = some { cls := .type "list", data := .seq #[] } := Heap.get?_push_size _ rfl
  have hS : s.heap.objs.size ≠ z ∧ s.heap.objs.size ≠ TI ∧ s.heap.objs.size ≠ TO ∧ s.heap.objs.size ≠ i1 ∧ s.heap.objs.size ≠ i2 ∧ s.heap.objs.size ≠ l1 ∧ s.heap.objs.size ≠ l2 :=
    ⟨Nat.ne_of_gt zl, Nat.ne_of_gt lTI, Nat.ne_of_gt TOl, Nat.ne_of_gt i1l, Nat.ne_of_gt i2l, Nat.ne_of_gt l1l, Nat.ne_of_gt l2l⟩
  refine ⟨⟨_, hS0, rfl⟩, F.args_list_init_2 _ _, ?_⟩
  generalize hs : s.heap.objs.size = S at hS0 hS hQ ⊢
  show wpAny _ _ (do let old ← Builtin.List.listItems (.ref S); Builtin.List.listUpdate (.ref S) (fun _ => #[]); letGo old.toList.reverse; Builtin.List.listExtendWith (.ref S) (.ref z) .none) _ _ _
  unfold Builtin.List.listItems
  refine wpAny_bind (wpAny_bind (wpAny_seqItems hS0 rfl (wpAny_pure ?_)))
  show wpAny _ _ (updateSeq S (fun _ => #[]) >>= fun _ => letGo (#[] : Array Value).toList.reverse >>= fun _ => Builtin.List.listExtendWith (.ref S) (.ref z) .none) _ _ _
  refine wpAny_bind (wpAny_updateSeq hS0 rfl (wpAny_bind (wpAny_letGo ?_)))
  have hS1 := Heap.get?_update_self (Obj.mapSeq (fun _ => (#[] : Array Value))) hS0 rfl
  have up1 : ∀ b o, b ≠ S → (s.heap.push { cls := .type "list", data := .seq #[] }).get? b = some o → ((s.heap.push { cls := .type "list", data := .seq #[] }).update S (Obj.mapSeq (fun _ => (#[] : Array Value)))).get? b = some o := fun b o hb q => (Heap.get?_update_other _ _ (Ne.symm hb)).trans q
  have Z1 : ZSt ka kb z TI TO i1 i2 l1 l2 xs ys 0 (s.heap.push { cls := .type "list", data := .seq #[] }) := Z.keep hS (fun b o _ q => Heap.get?_push_of_some _ q) fun o q => ⟨_, hS0⟩
  have Z2 := Z1.keep hS up1 fun o q => ⟨_, hS1⟩
  have base : ∀ b o, b ≠ S → b ≠ z → b ≠ TO → b ≠ i1 → b ≠ i2 → s.heap.get? b = some o → ((s.heap.push { cls := .type "list", data := .seq #[] }).update S (Obj.mapSeq (fun _ => (#[] : Array Value)))).get? b = some o := fun b o b1 _ _ _ _ q => up1 b o b1 (Heap.get?_push_of_some _ q)
  have sz1 : ((s.heap.push { cls := .type "list", data := .seq #[] }).update S (Obj.mapSeq (fun _ => (#[] : Array Value)))).objs.size = S + 1 := by rw [Heap.size_update, Heap.size_push, hs]
  generalize (s.heap.push { cls := .type "list", data := .seq #[] }).update S (Obj.mapSeq (fun _ => (#[] : Array Value))) = g at Z2 hS1 base sz1 ⊢
  unfold Builtin.List.listExtendWith
  refine wpAny_bind (wpAny_typeOf (T := "zip") (Z2.type rfl) ?_)
  have n1 : Builtin.List.listSameRef (.ref S) (.ref z) = false := by simp [Builtin.List.listSameRef, hS.1]
  have n2 : (Value.type "zip" == Value.type "list") = false := by decide
  have n3 : (Value.type "zip" == Value.type "tuple") = false := by decide
  simp only [n1, n2, n3, Bool.or_false, Bool.false_eq_true, if_false]
  have itr : ∀ {M : Around} {E' : Value → Shared → Prop} {Q' : Value → Shared → Prop} {s' : Shared}, s'.heap = g → Q' (.ref z) s' → wpAny (model prog w) M (pyIter (.ref z)) Q' E' s' := fun {M E' Q' s'} e q => by
    refine wpAny_pyIter_slot (Z2.type e) F.slot_zip_iter (wpAny_call_entry F.slot_zip_iter (Z2.type e) F.entry_zip_iter ?_ (F.args_zip_iter_1 _))
    show wpAny _ _ (ret (.ref z)) _ _ s'
    exact wpAny_pure ⟨_, rfl, "zip", _, Z2.type e, F.slot_zip_next.lookup, q⟩
  refine wpAny_bind (itr rfl (wpAny_bind (wpAny_holding ?_)))
  unfold Builtin.List.listLengthHint
  refine wpAny_bind (wpAny_specialOf (Z2.type rfl) zip_nolen ?_)
  show wpAny _ _ (specialOf (Value.ref z) (Str.ofString "__length_hint__") >>= _) _ _ _
  refine wpAny_bind (wpAny_specialOf (Z2.type rfl) zip_nohint (wpAny_pure ?_))
  rw [Bool.true_or, if_pos rfl]
  refine wpAny_bind (wpAny_rule (wpAny_bind ?_))
  show wpAny _ _ (updateSeq S (·.push .none) >>= fun _ => updateSeq S (·.pop)) _ _ _
  have hS2 := Heap.get?_update_self (Obj.mapSeq (·.push Value.none)) hS1 rfl
  refine wpAny_bind (wpAny_updateSeq hS1 rfl (wpAny_updateSeq (hz := by seq_fits) hS2 rfl ?_))
  have hS3 := Heap.get?_update_self (Obj.mapSeq (·.pop)) hS2 rfl
  have up3 : ∀ b o, b ≠ S → g.get? b = some o → ((g.update S (Obj.mapSeq (·.push Value.none))).update S (Obj.mapSeq (·.pop))).get? b = some o := fun b o hb q => (Heap.get?_update_other _ _ (Ne.symm hb)).trans ((Heap.get?_update_other _ _ (Ne.symm hb)).trans q)
  have sz3 : ((g.update S (Obj.mapSeq (·.push Value.none))).update S (Obj.mapSeq (·.pop))).objs.size = S + 1 := by rw [Heap.size_update, Heap.size_update, sz1]
  refine wpAny_pure ⟨plainId_quiet F.plain_extend_loop _, ?_⟩
  refine zl_loop (A := A.in1) (s := s) (h₁ := s.heap) (lo := S + 1) hh D hS (Nat.lt_succ_of_lt (hs ▸ zl)) (Nat.lt_succ_of_lt (hs ▸ TOl)) (Nat.lt_succ_of_lt (hs ▸ i1l)) (Nat.lt_succ_of_lt (hs ▸ i2l)) (Nat.lt_succ_self _) hn .none (fun h' acc c as k1 k2 k3 k4 k5 => ⟨rfl, hQ h' acc c as (fun b o b2 b3 b4 b5 q => ?_) k2 k3 k4 k5⟩)
    _ 0 _ _ #[] [] rfl (Nat.zero_le _) (Z2.keep hS up3 fun o q => ⟨_, hS3⟩) (fun b o b1 b2 b3 b4 b5 q => up3 b o b1 (base b o b1 b2 b3 b4 b5 q)) hS3 rfl rfl ⟨List.Pairwise.nil, (fun _ q => nomatch q), (fun _ q => nomatch q), fun j a q => by simp at q⟩ (by rw [sz3]; exact Nat.le_refl _)
  have := Heap.lt_size q
  exact k1 b o (Nat.ne_of_lt (hs ▸ this)) b2 b3 b4 b5 q
end
end PKZ
namespace PKZ
open PySem PySem.Spec PyProof.Rows L2
def Kd.nm : Kd → String
  | .l => "list_iterator"
  | .t => "tuple_iterator"
abbrev itO (kd : Kd) (a : Addr) : Obj := { cls := .type kd.nm, data := .fields #[.ref a, .int 0 0] }
abbrev zg1 (ka : Kd) (h : Heap) (a : Addr) : Heap := h.push (itO ka a)
abbrev zg2 (ka kb : Kd) (h : Heap) (a b : Addr) : Heap := (zg1 ka h a).push (itO kb b)
abbrev zg3 (ka kb : Kd) (h : Heap) (a b : Addr) : Heap := (zg2 ka kb h a b).push { cls := .type "tuple", data := .seq #[.ref h.objs.size, .ref (zg1 ka h a).objs.size] }
abbrev zg4 (ka kb : Kd) (h : Heap) (a b : Addr) : Heap := (zg3 ka kb h a b).push { cls := .type "tuple", data := .seq #[.none, .none] }
abbrev zg5 (ka kb : Kd) (h : Heap) (a b : Addr) : Heap := (zg4 ka kb h a b).push { cls := .type "zip", data := .fields #[.none, .bool false, .bool false, .ref (zg2 ka kb h a b).objs.size, .ref (zg3 ka kb h a b).objs.size] }
theorem Kd.sq_push {kd : Kd} {h : Heap} {a : Addr} {xs : Array Value} {o : Obj} (q : kd.Sq h a xs) : kd.Sq (h.push o) a xs := Kd.sq_at q fun _ e => Heap.get?_push_of_some _ e
theorem Kd.sq_lt {kd : Kd} {h : Heap} {a : Addr} {xs : Array Value} (q : kd.Sq h a xs) : a < h.objs.size := by
  cases kd with
  | l => obtain ⟨o, e, _⟩ := q; exact Heap.lt_size e
  | t => obtain ⟨o, e, _⟩ := q; exact Heap.lt_size e
theorem pyIter_kd {prog : Program} {w : World} {A : Around} {E : Value → Shared → Prop} {s : Shared} {kd : Kd} {a : Addr} {xs : Array Value} {Q : Value → Shared → Prop} (q : kd.Sq s.heap a xs)
    (h : Q (.ref s.heap.objs.size) { s with heap := s.heap.push (itO kd a) }) : wpAny (model prog w) A (pyIter (.ref a)) Q E s := by
  cases kd with
  | l => exact wpAny_pyIter_list q h
  | t => exact wpAny_pyIter_tuple q h
theorem meets_zg (ka kb : Kd) (a b : Addr) (xs ys : Array Value) :
    Meets (Builtin.«zip.__new__» ⟨[.type "zip", .ref a, .ref b], []⟩) (fun _ R s => ka.Sq s.heap a xs ∧ kb.Sq s.heap b ys ∧ R (.ok (.ret (.ref (zg4 ka kb s.heap a b).objs.size))) { s with heap := zg5 ka kb s.heap a b }) :=
  .of_wp fun prog w A R s h => by
    obtain ⟨hp, g, d, tk, os⟩ := s
    obtain ⟨h1, h2, h⟩ := h
    have hsub := sub_zip
    have p1 : ka.Sq (Shared.heap ⟨hp, g, d, tk, os⟩) a xs := h1
    have p2 : kb.Sq (Shared.heap ⟨hp.push (itO ka a), g, d, tk, os⟩) b ys := Kd.sq_push h2
    wp_walk using pyIter_kd p1, pyIter_kd p2
    exact ⟨_, rfl, h⟩
section
variable {prog : Program} {w : World} {A : Around} {E : Value → Shared → Prop} {s : Shared}
/-- zip(a, b) -/
theorem call_zg {ka kb : Kd} {a b : Addr} {xs ys : Array Value} {Q : Value → Shared → Prop} (h1 : ka.Sq s.heap a xs) (h2 : kb.Sq s.heap b ys)
    (hQ : ∀ h', ZSt ka kb (s.heap.objs.size + 4) (s.heap.objs.size + 2) (s.heap.objs.size + 3) s.heap.objs.size (s.heap.objs.size + 1) a b xs ys 0 h' → Zo h' (s.heap.objs.size + 4) (s.heap.objs.size + 2) (s.heap.objs.size + 3) .none false → h'.objs.size = s.heap.objs.size + 5 →
      (∀ c o, s.heap.get? c = some o → h'.get? c = some o) → Q (.ref (s.heap.objs.size + 4)) { s with heap := h' }) :
    wpAny (model prog w) A (call (.type "zip") [.ref a, .ref b]) Q E s := by
  refine callType_new F.called_zip (by decide) (F.typeCall_zip_2 _ _) (F.newCall_zip_2 _ _) (fun obj => F.args_object_init_3 obj _ _) F.entry_zip_new (meets_zg ka kb a b xs ys) ⟨h1, h2, ?_⟩
  have z1 : (zg1 ka s.heap a).objs.size = s.heap.objs.size + 1 := Heap.size_push ..
  have z2 : (zg2 ka kb s.heap a b).objs.size = s.heap.objs.size + 2 := by rw [Heap.size_push, z1]
  have z3 : (zg3 ka kb s.heap a b).objs.size = s.heap.objs.size + 3 := by rw [Heap.size_push, z2]
  have z4 : (zg4 ka kb s.heap a b).objs.size = s.heap.objs.size + 4 := by rw [Heap.size_push, z3]
  have z5 : (zg5 ka kb s.heap a b).objs.size = s.heap.objs.size + 5 := by rw [Heap.size_push, z4]
  have kp : ∀ c o, s.heap.get? c = some o → (zg5 ka kb s.heap a b).get? c = some o := fun c o e =>
    Heap.get?_push_of_some _ (Heap.get?_push_of_some _ (Heap.get?_push_of_some _ (Heap.get?_push_of_some _ (Heap.get?_push_of_some _ e))))
  have o5 : (zg5 ka kb s.heap a b).get? (zg4 ka kb s.heap a b).objs.size = some _ := Heap.get?_push_size _ rfl
  have o4 : (zg5 ka kb s.heap a b).get? (zg3 ka kb s.heap a b).objs.size = some _ := Heap.get?_push_of_some _ (Heap.get?_push_size _ rfl)
  have o3 : (zg5 ka kb s.heap a b).get? (zg2 ka kb s.heap a b).objs.size = some _ := Heap.get?_push_of_some _ (Heap.get?_push_of_some _ (Heap.get?_push_size _ rfl))
  have o2 : (zg5 ka kb s.heap a b).get? (zg1 ka s.heap a).objs.size = some (itO kb b) := Heap.get?_push_of_some _ (Heap.get?_push_of_some _ (Heap.get?_push_of_some _ (Heap.get?_push_size _ rfl)))
  have o1 : (zg5 ka kb s.heap a b).get? s.heap.objs.size = some (itO ka a) := Heap.get?_push_of_some _ (Heap.get?_push_of_some _ (Heap.get?_push_of_some _ (Heap.get?_push_of_some _ (Heap.get?_push_size _ rfl))))
  have it : ∀ (kd : Kd) (i c : Addr), (zg5 ka kb s.heap a b).get? i = some (itO kd c) → kd.It (zg5 ka kb s.heap a b) i c 0 := fun kd i c e => by
    cases kd with
    | l => exact ⟨_, e, rfl, rfl⟩
    | t => exact ⟨_, e, rfl, rfl⟩
  rw [z2, z3, z4] at o5
  rw [z1, z2] at o3
  rw [z3] at o4
  rw [z1] at o2
  show _ ∧ _
  rw [z4]
  exact ⟨⟨_, o5, rfl⟩, hQ _ ⟨o3, ⟨_, _, o4⟩, it _ _ _ o1, it _ _ _ o2, Kd.sq_at h1 fun o e => kp _ _ e, Kd.sq_at h2 fun o e => kp _ _ e, .inl o5⟩ o5 z5 kp⟩
end
/-- the heap has grown, some of the new objects are tracked -/
theorem inv_grow {X : Cx} {pins : List (Addr × Obj)} {σ : L2.St} {H H' : Hp} {s : Shared} {h' : Heap} {tk : Nat} (I : Inv X pins σ H s) (hk : ∀ b o, s.heap.get? b = some o → h'.get? b = some o) (kp : ∀ b u, H b = some u → H' b = some u)
    (nn : ∀ b o, s.heap.get? b = some o → H b = none → H' b = none) (hok : ∀ b u, H' b = some u → H b = some u ∨ ObjOk X.prog X.w H' h' b u) : Inv X pins σ H' { s with heap := h', toks := tk } := by
  refine I.call' (ch := []) rfl ⟨fun b o q _ _ _ => hk b o q, fun b o q _ _ _ => ⟨o.slots, hk b o q⟩, fun b o q n _ => nn b o q n, fun b o q _ => ⟨o, hk b o q⟩, fun b xs q => kp b _ q, fun b o u q => kp b _ q, fun b ps q => ⟨#[], by rw [kp b _ q]; simp⟩⟩ (fun b u q => ?_) I.bare fun b z => nomatch z
  rcases hok b u q with e | e
  · exact (I.hok b u e).stay (fun d v _ y => hk d v y) (fun d y => kp d _ y) fun d xs y => kp d _ y
  · exact e
/-- pairs tracked at their places -/
def putP : Hp → List Addr → List V → List V → Hp
  | H, a :: as, x :: xs, y :: ys => putP (upd H a (.tup [x, y])) as xs ys
  | H, _, _, _ => H
theorem putP_off {b : Addr} : ∀ (as : List Addr) (xs ys : List V) (H : Hp), b ∉ as → putP H as xs ys b = H b
  | [], _, _, _, _ => rfl
  | _ :: _, [], _, _, _ => rfl
  | _ :: _, _ :: _, [], _, _ => rfl
  | a :: as, x :: xs, y :: ys, H, h => by
    show putP (upd H a (.tup [x, y])) as xs ys b = H b
    rw [putP_off as xs ys _ (fun z => h (List.mem_cons_of_mem _ z)), upd_ne (fun z => h (by rw [z]; exact List.mem_cons_self))]
theorem putP_at : ∀ (as : List Addr) (xs ys : List V) (H : Hp), as.length ≤ xs.length → as.length ≤ ys.length → as.Nodup → ∀ (j : Nat) (a : Addr), as[j]? = some a → ∃ x y, xs[j]? = some x ∧ ys[j]? = some y ∧ putP H as xs ys a = some (.tup [x, y])
  | [], _, _, _, _, _, _, _, _, e => by simp at e
  | _ :: _, [], _, _, h, _, _, _, _, _ => by simp at h
  | _ :: _, _ :: _, [], _, _, h, _, _, _, _ => by simp at h
  | a :: as, x :: xs, y :: ys, H, h1, h2, hn, 0, b, e => by
    have e : a = b := by simpa using e
    subst e
    refine ⟨x, y, rfl, rfl, ?_⟩
    show putP (upd H a (.tup [x, y])) as xs ys a = _
    rw [putP_off as xs ys _ (List.nodup_cons.mp hn).1, upd_same]
  | a :: as, x :: xs, y :: ys, H, h1, h2, hn, j + 1, b, e => by
    obtain ⟨u, v, e1, e2, e3⟩ := putP_at as xs ys (upd H a (.tup [x, y])) (Nat.le_of_succ_le_succ h1) (Nat.le_of_succ_le_succ h2) (List.nodup_cons.mp hn).2 j b (by simpa using e)
    exact ⟨u, v, by simpa using e1, by simpa using e2, e3⟩
theorem refs_vals : ∀ as : List Addr, Vals (as.map V.ref) (as.map Value.ref)
  | [] => .nil
  | _ :: as => .cons rfl (refs_vals as)
def Sq2 (K : PySem.W.Frag) (H : Hp) (a : Addr) (xs : List V) : Prop := SqL K H a xs ∨ SqT K H a xs
theorem sq_of {X : Cx} {pins : List (Addr × Obj)} {σ : L2.St} {H : Hp} {s : Shared} {a : Addr} {xs : List V} (I : Inv X pins σ H s) (q : Sq2 X.K H a xs) : ∃ (kd : Kd) (its : List Value), Vals xs its ∧ kd.Sq s.heap a its.toArray := by
  rcases q with q | q
  · obtain ⟨its, rv, p, _⟩ := I.list q
    exact ⟨.l, its, rv, p.isList⟩
  · obtain ⟨its, rv, p, _⟩ := I.tuple q
    exact ⟨.t, its, rv, p⟩
def rListZip (K : PySem.W.Frag) : List V → Hp → VK → Prop := fun vs H Q => ∃ (a b : Addr) (xs ys : List V), vs = [.ref a, .ref b] ∧ Sq2 K H a xs ∧ Sq2 K H b ys ∧ min xs.length ys.length ≤ sizeLine ∧
  ∀ (H' : Hp) (p : Addr) (ts : List Addr), (∀ b o, H b = some o → H' b = some o) → H p = none → (∀ t ∈ ts, H t = none) → ts.length = min xs.length ys.length → H' p = some (.lst (ts.map V.ref)) →
    (∀ (j : Nat) (t : Addr), ts[j]? = some t → ∃ x y, xs[j]? = some x ∧ ys[j]? = some y ∧ H' t = some (.tup [x, y])) → Q (.ref p) H'
def tListZip (K : PySem.W.Frag) (ta : TA) : TE := fun σ H Q => ta σ H fun vs H1 => rListZip K vs H1 Q
/-- list(zip(e, e2)) -/
theorem pe_listZip {X : Cx} {e e2 : Expr} {ta : TA} {p p2 pos pos2 : Pos} (hc : X.calm = true) (hg : Gl X "list") (hm : X.mg "list" = none) (hv : bootBuiltins "list" = some (.type "list")) (hg2 : Gl X "zip") (hm2 : X.mg "zip" = none) (ha : PA X [e, e2] ta)
    (hs : starEach [.Call (.Name "zip" p2) [e, e2] [] pos2] X.env = (false, eval (.Call (.Name "zip" p2) [e, e2] [] pos2) X.env) :: starEach [] X.env := by rfl)
    (hs2 : starEach [e, e2] X.env = (false, eval e X.env) :: starEach [e2] X.env := by rfl) (hpl : (backTo pos2 (starEach [e2] X.env)).any (·.1) = false := by rfl) :
    PE X (.Call (.Name "list" p) [.Call (.Name "zip" p2) [e, e2] [] pos2] [] pos) (tListZip X.K ta) := by
  refine ⟨fun pins s σ H Q I hq => ?_⟩
  refine wpAny_Call_Name_kw (ld_blt I hg hm hv (PyProof.Rows.callWith_type1 ?_ hs rfl))
  rw [hs]
  show wpAny _ _ (spliced ((false, eval (.Call (.Name "zip" p2) [e, e2] [] pos2) X.env) :: backTo pos (starEach [] X.env))) _ _ s
  refine Calls.spliced_cons (Call_ (ld_blt I hg2 hm2 PyProof.Rows.boot_zip (PyProof.Rows.callWith_type1 (thn (ha.run pos2 pins s σ H _ I hq) fun us s1 ⟨vs, H1, I1, r1, q1⟩ => ?_) hs2 hpl)))
  obtain ⟨a, b, xs, ys, rfl, qa, qb, hmin, q⟩ := q1
  obtain ⟨u, us, rfl, ru, rr⟩ : ∃ u us', us = u :: us' ∧ RelV (V.ref a) u ∧ Vals [V.ref b] us' := by cases r1 with | cons r t => exact ⟨_, _, rfl, r, t⟩
  obtain ⟨u2, rfl, ru2⟩ : ∃ u2, us = [u2] ∧ RelV (V.ref b) u2 := by cases rr with | cons r t => cases t; exact ⟨_, rfl, r⟩
  obtain rfl : u = Value.ref a := ru
  obtain rfl : u2 = Value.ref b := ru2
  obtain ⟨ka, ia, va, sa⟩ := sq_of I1 qa
  obtain ⟨kb, ib, vb, sb⟩ := sq_of I1 qb
  have la := va.length
  have lb := vb.length
  have mn : min ia.toArray.size ib.toArray.size = min xs.length ys.length := by rw [List.size_toArray, List.size_toArray, la, lb]
  refine call_zg sa sb fun g Z zo sz kp => Calls.spliced_nil ?_
  have hal := Kd.sq_lt sa
  have hbl := Kd.sq_lt sb
  refine zl_call (s := { s1 with heap := g }) (I1.ok.hd hc) (PySem.W.ktu_apart s1.heap.objs.size a b hal hbl) Z (Heap.lt_size Z.ti) (Nat.lt_of_lt_of_le hal (by show s1.heap.objs.size ≤ g.objs.size; rw [sz]; exact Nat.le_add_right _ _)) (Nat.lt_of_lt_of_le hbl (by show s1.heap.objs.size ≤ g.objs.size; rw [sz]; exact Nat.le_add_right _ _)) (by rw [mn]; exact hmin) fun h' acc c as k1 k2 k3 k4 k5 => ?_
  dsimp only at k1 k2 k3 k4 k5 ⊢
  have hS : s1.heap.objs.size ≤ g.objs.size := by rw [sz]; exact Nat.le_add_right _ _
  have hk : ∀ b o, s1.heap.get? b = some o → h'.get? b = some o := fun b o e => by
    have lt := Heap.lt_size e
    exact k1 b o (Nat.ne_of_lt (Nat.lt_of_lt_of_le lt (Nat.le_add_right _ _))) (Nat.ne_of_lt (Nat.lt_of_lt_of_le lt (Nat.le_add_right _ _))) (Nat.ne_of_lt lt) (Nat.ne_of_lt (Nat.lt_of_lt_of_le lt (Nat.le_add_right _ _))) (kp _ _ e)
  have nS : H1 g.objs.size = none := I1.hok.fresh hS
  have nas : ∀ t ∈ as, H1 t = none := fun t ht => I1.hok.fresh (Nat.le_trans hS (Nat.le_of_lt (k4.above t ht)))
  have nd : as.Nodup := List.Pairwise.imp (fun {x y} (h : x < y) => Nat.ne_of_lt h) k4.rise
  have Sn : g.objs.size ∉ as := fun z => Nat.lt_irrefl _ (k4.above _ z)
  have lx : as.length ≤ xs.length := by rw [k3, mn]; exact Nat.min_le_left _ _
  have ly : as.length ≤ ys.length := by rw [k3, mn]; exact Nat.min_le_right _ _
  have at_ := putP_at as xs ys (upd H1 g.objs.size (.lst (as.map V.ref))) lx ly nd
  have off : ∀ b, b ∉ as → b ≠ g.objs.size → putP (upd H1 g.objs.size (.lst (as.map V.ref))) as xs ys b = H1 b := fun b h1 h2 => by rw [putP_off as xs ys _ h1, upd_ne h2]
  have eS : putP (upd H1 g.objs.size (.lst (as.map V.ref))) as xs ys g.objs.size = some (.lst (as.map V.ref)) := by rw [putP_off as xs ys _ Sn, upd_same]
  have kp2 : ∀ b u, H1 b = some u → putP (upd H1 g.objs.size (.lst (as.map V.ref))) as xs ys b = some u := fun b u e => by
    rw [off b (fun z => by rw [nas b z] at e; cases e) (fun z => by rw [z, nS] at e; cases e)]
    exact e
  refine ⟨.ref g.objs.size, _, inv_grow (tk := s1.toks) I1 hk kp2 (fun b o e n => ?_) (fun b u e => ?_), rfl, q _ _ as kp2 nS nas (by rw [k3, mn]) eS at_⟩
  · have lt := Heap.lt_size e
    rw [off b (fun z => absurd (Nat.lt_of_lt_of_le lt (Nat.le_trans hS (Nat.le_of_lt (k4.above b z)))) (Nat.lt_irrefl _)) (Nat.ne_of_lt (Nat.lt_of_lt_of_le lt hS))]
    exact n
  · by_cases hb : b ∈ as
    · right
      obtain ⟨j, hj, rfl⟩ := List.getElem_of_mem hb
      obtain ⟨x, y, e1, e2, e3⟩ := at_ j _ (List.getElem?_eq_getElem hj)
      rw [e3] at e
      cases e
      obtain ⟨vx, vy, f1, f2, f3⟩ := k4.at_ j _ (List.getElem?_eq_getElem hj)
      obtain ⟨wx, g1, r1⟩ := va.get e1
      obtain ⟨wy, g2, r2⟩ := vb.get e2
      have h1 : vx = wx := Option.some.inj (f1.symm.trans (by simpa using g1))
      have h2 : vy = wy := Option.some.inj (f2.symm.trans (by simpa using g2))
      subst h1 h2
      exact ⟨by show 2 ≤ sizeLine; decide, [vx, vy], .cons r1 (.cons r2 .nil), ⟨_, f3, rfl, _, rfl⟩⟩
    · by_cases hb2 : b = g.objs.size
      · right
        rw [hb2] at e ⊢
        rw [eS] at e
        cases e
        refine ⟨by rw [List.length_map, k3, mn]; exact hmin, acc.toList, c, by rw [k5]; exact refs_vals as, ?_⟩
        rw [Array.toArray_toList]
        exact k2
      · left
        rw [off b hb hb2] at e
        exact e
end PKZ
namespace PKZ
open PySem PySem.Spec PyProof.Rows L2
def SqV (kd : Kd) (K : PySem.W.Frag) (H : Hp) (a : Addr) (xs : List V) : Prop := match kd with
  | .l => SqL K H a xs
  | .t => SqT K H a xs
theorem sq_kd {X : Cx} {pins : List (Addr × Obj)} {σ : L2.St} {H : Hp} {s : Shared} {kd : Kd} {a : Addr} {xs : List V} (I : Inv X pins σ H s) (q : SqV kd X.K H a xs) : ∃ its : List Value, Vals xs its ∧ kd.Sq s.heap a its.toArray := by
  cases kd with
  | l => obtain ⟨its, rv, p, _⟩ := I.list q; exact ⟨its, rv, p.isList⟩
  | t => obtain ⟨its, rv, p, _⟩ := I.tuple q; exact ⟨its, rv, p⟩
/-- pairs of the items of two sequences -/
def ItP (K : PySem.W.Frag) (ka kb : Kd) (a b : Addr) (xs ys : List V) : It :=
  ⟨fun i H => SqV ka K H a xs ∧ SqV kb K H b ys ∧ i < xs.length ∧ i < ys.length,
    fun i H v H' => ∃ T x y, v = .ref T ∧ H T = none ∧ H' = upd H T (.tup [x, y]) ∧ xs[i]? = some x ∧ ys[i]? = some y,
    fun i H => SqV ka K H a xs ∧ SqV kb K H b ys ∧ (xs.length ≤ i ∨ ys.length ≤ i)⟩
theorem turn_zip {P : Program} {w : World} {K : PySem.W.Frag} {elts : List Expr} {kk : Nat} {tpos : Pos} {ka kb : Kd} {a b z TI TO i1 i2 : Addr} {xs ys : List V} (D : ZipApart z TI TO i1 i2 a b) :
    Turn P w K (.Tuple elts kk tpos) (ItP K ka kb a b xs ys) [z, TI, TO, i1, i2] z (fun i h => Zo h z TI TO .none false ∧ IsPair h TI (.ref i1) (.ref i2) ∧ (∃ x y, IsPair h TO x y) ∧ ka.It h i1 a i ∧ kb.It h i2 b i) where
  mem := List.mem_cons_self
  obj := fun i h st c hc => by
    obtain ⟨q1, q2, ⟨x, y, q3⟩, q4, q5⟩ := st
    simp only [List.mem_cons, List.not_mem_nil, or_false] at hc
    rcases hc with e | e | e | e | e
    · rw [e]; exact ⟨_, q1, fun v q => nomatch q⟩
    · rw [e]; exact ⟨_, q2, fun v q => nomatch q⟩
    · rw [e]; exact ⟨_, q3, fun v q => nomatch q⟩
    · rw [e]; exact Kd.it_get q4
    · rw [e]; exact Kd.it_get q5
  keep := fun i h h' st k => by
    obtain ⟨q1, q2, ⟨x, y, q3⟩, q4, q5⟩ := st
    exact ⟨k z (by simp) _ q1, k TI (by simp) _ q2, ⟨x, y, k TO (by simp) _ q3⟩, Kd.it_at q4 fun o q => k i1 (by simp) o q, Kd.it_at q5 fun o q => k i2 (by simp) o q⟩
  item := by
    intro X hP hw hK hc i pins s σ H E I hf st hg
    subst hP hw hK
    obtain ⟨q1, q2, ⟨x0, y0, q3⟩, q4, q5⟩ := st
    obtain ⟨sx, sy, lx, ly⟩ := hg
    obtain ⟨ia, va, sa⟩ := sq_kd I sx
    obtain ⟨ib, vb, sb⟩ := sq_kd I sy
    obtain ⟨u, hu, ru⟩ := va.get (List.getElem?_eq_getElem lx)
    obtain ⟨u2, hu2, ru2⟩ := vb.get (List.getElem?_eq_getElem ly)
    have zl : z < s.heap.objs.size := Heap.lt_size q1
    have hT : s.TypeIs (.ref z) "zip" := ⟨_, q1, rfl⟩
    unfold pyNext
    refine wpAny_bind (wpAny_attempt (wpAny_callSpecial?_slot (name := Str.ofString "__next__") hT F.slot_zip_next (wpAny_call_entry F.slot_zip_next hT F.entry_zip_next ?_ (F.args_zip_next_1 _))))
    refine free_item D q1 q2 q3 q4 q5 sa sb (x := u) (y := u2) (by simpa using hu) (by simpa using hu2) fun h' c1 c2 c3 c4 c5 c6 c7 => wpAny_pure ?_
    refine ⟨_, rfl, wpAny_letOwnedTupleGo_zip (s := { s with heap := h' }) c1 fun g d1 d2 => ?_⟩
    have t2 : g.get? s.heap.objs.size = some { cls := .type "tuple", data := .seq #[u, u2] } := (d2.2 _ (Nat.ne_of_gt zl)).trans c5
    have new : ObjOk X.prog X.w (upd H s.heap.objs.size (.tup [xs[i], ys[i]])) g s.heap.objs.size (.tup [xs[i], ys[i]]) := ⟨by show 2 ≤ sizeLine; decide, [u, u2], .cons ru (.cons ru2 .nil), ⟨_, t2, rfl, _, rfl⟩⟩
    have away : ∀ c o, c ∉ [z, TI, TO, i1, i2] → s.heap.get? c = some o → g.get? c = some o := fun c o hb q => by
      simp only [List.mem_cons, List.not_mem_nil, or_false, not_or] at hb
      exact (d2.2 c hb.1).trans (c7 c o hb.1 hb.2.2.1 hb.2.2.2.1 hb.2.2.2.2 q)
    have I1 : Inv X pins σ (upd H s.heap.objs.size (.tup [xs[i], ys[i]])) { s with heap := g } := I.turnedNew (t' := s.toks) (ch := [z, TI, TO, i1, i2]) away hf (Nat.le_refl _) new
    refine ⟨.ref s.heap.objs.size, _, I1, rfl, ⟨_, xs[i], ys[i], rfl, I.hok.fresh (Nat.le_refl _), rfl, List.getElem?_eq_getElem lx, List.getElem?_eq_getElem ly⟩, ⟨d1, (d2.2 _ D.TIz).trans (c7 _ _ D.TIz D.TITO D.TIi1 D.TIi2 q2), ⟨_, _, (d2.2 _ D.TOz).trans c2⟩, Kd.it_at c3 fun o q => (d2.2 _ D.i1z).trans q, Kd.it_at c4 fun o q => (d2.2 _ D.i2z).trans q⟩, fun c hc => ?_⟩
    have lt : c < s.heap.objs.size := by
      simp only [List.mem_cons, List.not_mem_nil, or_false] at hc
      rcases hc with e | e | e | e | e
      · rw [e]; exact zl
      · rw [e]; exact Heap.lt_size q2
      · rw [e]; exact Heap.lt_size q3
      · rw [e]; obtain ⟨o, p, _⟩ := Kd.it_get q4; exact Heap.lt_size p
      · rw [e]; obtain ⟨o, p, _⟩ := Kd.it_get q5; exact Heap.lt_size p
    rw [upd_ne (Nat.ne_of_lt lt)]
    exact (hf c hc).1
  done := by
    intro X hP hw hK hc i pins s σ H E I hf st hg
    subst hP hw hK
    obtain ⟨q1, q2, ⟨x0, y0, q3⟩, q4, q5⟩ := st
    obtain ⟨sx, sy, hend⟩ := hg
    obtain ⟨ia, va, sa⟩ := sq_kd I sx
    obtain ⟨ib, vb, sb⟩ := sq_kd I sy
    have la := va.length
    have lb := vb.length
    have he : ia.toArray[i]? = none ∨ ib.toArray[i]? = none := by
      rcases hend with q | q
      · exact .inl (by simp; omega)
      · exact .inr (by simp; omega)
    have hT : s.TypeIs (.ref z) "zip" := ⟨_, q1, rfl⟩
    unfold pyNext
    refine wpAny_bind (wpAny_attempt (wpAny_callSpecial?_slot (name := Str.ofString "__next__") hT F.slot_zip_next (wpAny_call_entry F.slot_zip_next hT F.entry_zip_next ?_ (F.args_zip_next_1 _))))
    refine free_end (I.ok.hd hc) D q1 q2 q3 q4 q5 sa sb he fun h' e k ⟨o, ho, hc2⟩ => ?_
    refine wpAny_bind (wpAny_isInstance (T := "StopIteration") (b := true) ⟨o, ho, hc2⟩ isSubtype_stop (wpAny_pure ⟨rfl, I.turnedL (t' := s.toks) (ch := [z, TI, TO, i1, i2]) (fun c o hb q => ?_) hf⟩))
    simp only [List.mem_cons, List.not_mem_nil, or_false, not_or] at hb
    exact k c o hb.1 hb.2.2.1 hb.2.2.2.1 hb.2.2.2.2 q
  self := fun A i s Q E st h => wpAny_pyIter_zip st.1 h
def iZipP (K : PySem.W.Frag) (ta : TA) : TI := fun σ H R => ta σ H fun vs H1 => ∃ (ka kb : Kd) (a b : Addr) (xs ys : List V), vs = [.ref a, .ref b] ∧ SqV ka K H1 a xs ∧ SqV kb K H1 b ys ∧ R (ItP K ka kb a b xs ys) H1
/-- for x, y in zip(e, e2), lists and tuples -/
theorem pi_zipP {X : Cx} {e e2 : Expr} {ta : TA} {p pos tpos : Pos} {elts : List Expr} {kk : Nat} (hg : Gl X "zip") (hm : X.mg "zip" = none) (ha : PA X [e, e2] ta)
    (hs : starEach [e, e2] X.env = (false, eval e X.env) :: starEach [e2] X.env := by rfl) (hpl : (backTo pos (starEach [e2] X.env)).any (·.1) = false := by rfl) :
    PI X (.Tuple elts kk tpos) (.Call (.Name "zip" p) [e, e2] [] pos) (iZipP X.K ta) := by
  refine ⟨fun pins s σ H R I h => ?_⟩
  refine Call_ (ld_blt I hg hm PyProof.Rows.boot_zip (PyProof.Rows.callWith_type1 (thn (ha.run pos pins s σ H _ I h) fun us s1 ⟨vs, H1, I1, r1, q1⟩ => ?_) hs hpl))
  obtain ⟨ka, kb, a, b, xs, ys, rfl, sx, sy, q⟩ := q1
  obtain ⟨u, u2, rfl, ru, ru2⟩ : ∃ u u2, us = [u, u2] ∧ RelV (V.ref a) u ∧ RelV (V.ref b) u2 := by
    cases r1 with
    | cons r t => cases t with
      | cons r2 t => cases t; exact ⟨_, _, rfl, r, r2⟩
  obtain rfl : u = Value.ref a := ru
  obtain rfl : u2 = Value.ref b := ru2
  obtain ⟨ia, va, sa⟩ := sq_kd I1 sx
  obtain ⟨ib, vb, sb⟩ := sq_kd I1 sy
  refine call_zg sa sb fun g Z zo sz kp => wpAny_pyIter_zip (s := { s1 with heap := g }) zo ?_
  have I2 : Inv X pins σ H1 { s1 with heap := g } := I1.kept (t' := s1.toks) kp
  refine ⟨s1.heap.objs.size + 4, [s1.heap.objs.size + 4, s1.heap.objs.size + 2, s1.heap.objs.size + 3, s1.heap.objs.size, s1.heap.objs.size + 1], _, _, H1, rfl, I2, turn_zip (PySem.W.ktu_apart s1.heap.objs.size a b (Kd.sq_lt sa) (Kd.sq_lt sb)), ⟨zo, Z.ti, Z.to, Z.it1, Z.it2⟩, fun c hc => ?_, q⟩
  have le : s1.heap.objs.size ≤ c := by
    simp only [List.mem_cons, List.not_mem_nil, or_false] at hc
    rcases hc with e | e | e | e | e
    · rw [e]; exact Nat.le_add_right _ _
    · rw [e]; exact Nat.le_add_right _ _
    · rw [e]; exact Nat.le_add_right _ _
    · rw [e]; exact Nat.le_refl _
    · rw [e]; exact Nat.le_add_right _ _
  exact I1.fpOk le (I1.hok.fresh le)
theorem walk_zipP {K : PySem.W.Frag} {ka kb : Kd} {a b : Addr} {xs ys : List V} {n : Nat} (hn : n = min xs.length ys.length) : Walk (ItP K ka kb a b xs ys) n (fun H => SqV ka K H a xs ∧ SqV kb K H b ys) (YPair (fun i => xs[i]?) (fun i => ys[i]?)) := by
  subst hn
  refine ⟨fun i _ hi q => ⟨q.1, q.2, by omega, by omega⟩, fun _ q => ⟨q.1, q.2, by omega⟩, fun i H v H' _ q y => ?_⟩
  obtain ⟨T, x, y, h1, h2, h3, h4, h5⟩ := y
  exact ⟨T, x, y, h1, h2, h3, h4, h5⟩
end PKZ
namespace PKZ
open PySem PySem.Spec PyProof.Rows L2
/-! t[::-1] of a tuple; xs.extend(t) -/
theorem adjust_back (n : Nat) : Builtin.Slice.sliceAdjust none none (-1) (n : Int) = ((n : Int) - 1, -1) := by
  unfold Builtin.Slice.sliceAdjust
  simp
theorem places_back (n : Nat) : Builtin.Slice.slicePlaces ((n : Int) - 1) (-1) (-1) = n := by
  unfold Builtin.Slice.slicePlaces
  rw [if_neg (by decide), show (- -1 : Int) = 1 by decide, Int.ediv_one]
  split <;> omega
theorem fm_congr {α β : Type} {f g : α → Option β} : ∀ {l : List α}, (∀ x ∈ l, f x = g x) → l.filterMap f = l.filterMap g
  | [], _ => rfl
  | x :: r, h => by
    have e := h x List.mem_cons_self
    have ih := fm_congr (l := r) fun y hy => h y (List.mem_cons_of_mem _ hy)
    cases q : f x with
    | none => rw [List.filterMap_cons_none q, List.filterMap_cons_none (e ▸ q), ih]
    | some y => rw [List.filterMap_cons_some q, List.filterMap_cons_some (e ▸ q), ih]
theorem pick_back (xs : List Value) : (((List.range xs.length).filterMap fun (k : Nat) => xs.toArray[((xs.length : Int) - 1 + (k : Int) * (-1)).toNat]?)) = xs.reverse := by
  have e : (List.range xs.length).filterMap (fun (k : Nat) => xs.toArray[((xs.length : Int) - 1 + (k : Int) * (-1)).toNat]?) = (List.range xs.length).filterMap fun k => xs.reverse.toArray[0 + k]? := by
    refine fm_congr fun k hk => ?_
    have hk := List.mem_range.mp hk
    have : ((xs.length : Int) - 1 + (k : Int) * (-1)).toNat = xs.length - 1 - k := by omega
    rw [this]
    simp [List.getElem?_reverse hk]
  have p := pick_run xs.reverse.toArray 0 xs.length
  rw [List.filterMap_map] at p
  rw [e]
  refine p.trans ?_
  rw [List.drop_zero]
  exact List.take_of_length_le (by rw [List.length_reverse]; exact Nat.le_refl _)
section
variable {prog : Program} {w : World} {A : Around} {E : Value → Shared → Prop} {s : Shared}
theorem applied_back {sl : Addr} {t : Tok} {n : Nat} {Q : Int × Int × Nat → Shared → Prop} (hs : s.heap.IsSliceOf sl .none .none (.int (-1) t)) (h : Q ((n : Int) - 1, -1, n) s) : wpAny (model prog w) A (Builtin.Slice.sliceApplied (.ref sl) (pure (n : Int))) Q E s := by
  obtain ⟨os, hos, hcs, hds⟩ := id hs
  unfold Builtin.Slice.sliceApplied Builtin.Slice.sliceFields
  refine wpAny_bind (wpAny_bind (wpAny_field hos hds (x := .none) rfl (wpAny_bind (wpAny_field hos hds (x := .none) rfl (wpAny_bind (wpAny_field hos hds (x := .int (-1) t) rfl (wpAny_pure ?_)))))))
  refine wpAny_bind (HT.slicePart_ (o := some (-1)) (.int _ _) ?_)
  show wpAny _ _ (if ((-1 : Int) == 0) = true then _ else _) _ _ s
  rw [if_neg (by decide)]
  refine wpAny_bind (HT.slicePart_ .none (wpAny_bind (HT.slicePart_ .none (wpAny_bind (wpAny_pure ?_)))))
  show wpAny _ _ (match Builtin.Slice.sliceAdjust none none (-1) (n : Int) with | (lo, hi) => pure (lo, (-1 : Int), Builtin.Slice.slicePlaces lo hi (-1))) _ _ s
  rw [adjust_back]
  show wpAny _ _ (pure ((n : Int) - 1, (-1 : Int), Builtin.Slice.slicePlaces ((n : Int) - 1) (-1) (-1))) _ _ s
  rw [places_back]
  exact wpAny_pure h
theorem tuple_back {t sl : Addr} {its : List Value} {tk : Tok} {Q : Value → Shared → Prop} (ht : PyProof.Rows.IsTup s.heap t its.toArray) (hs : s.heap.IsSliceOf sl .none .none (.int (-1) tk)) (hz : its.length ≤ sizeLine)
    (h : Q (.ref s.heap.objs.size) { s with heap := s.heap.push { cls := .type "tuple", data := .seq its.reverse.toArray } }) : wpAny (model prog w) A (getItem (.ref t) (.ref sl)) Q E s := by
  have fit : sizeOk (.seq its.reverse.toArray) := by
    show its.reverse.toArray.size ≤ sizeLine
    rw [List.size_toArray, List.length_reverse]; exact hz
  obtain ⟨os, hos, hcs, hds⟩ := id hs
  unfold getItem
  try with_reducible refine wpAny_holding ?_
  first | refine wpAny_bind (wpAny_pure ?_) | skip
  refine wpAny_bind (wpAny_sequenceKey ht.typeIs (by decide) (wpAny_bind (wpAny_callSpecial?_slot (name := Str.ofString "__getitem__") ht.typeIs PyProof.Rows.slot_tuple_getitem (wpAny_call_entry PyProof.Rows.slot_tuple_getitem ht.typeIs entry_tuple_getitem ?_ (args_tuple_getitem _ _)))))
  show wpAny _ _ (Builtin.Tuple.tupleItemsOf (.ref t) >>= _) _ _ s
  refine wpAny_bind (tupleItemsOf_ ht (wpAny_bind (wpAny_typeOf (T := "slice") ⟨os, hos, hcs⟩ ?_)))
  rw [if_pos (by decide)]
  refine wpAny_bind (applied_back hs ?_)
  have no : ¬ ((((its.toArray.size : Int) - 1) == 0 && (-1 : Int) == 1 && its.toArray.size == its.toArray.size) = true) := by simp
  show wpAny _ _ (if ((((its.toArray.size : Int) - 1) == 0 && (-1 : Int) == 1 && its.toArray.size == its.toArray.size)) = true then _ else _) _ _ s
  rw [if_neg no]
  have pk : ((List.range its.toArray.size).filterMap fun (k : Nat) => its.toArray[((its.toArray.size : Int) - 1 + (k : Int) * (-1)).toNat]?).toArray = its.reverse.toArray := by
    rw [List.size_toArray, pick_back]
  rw [pk]
  first
    | exact wpAny_bind (m := Builtin.Tuple.tupleExact _) (wpAny_newObj_type (wpAny_pure ⟨_, rfl, wpAny_pure h⟩) fit)
    | exact wpAny_bind (m := Builtin.Tuple.tupleExact _) (wpAny_newObj_type (wpAny_bind (wpAny_pure (wpAny_pure ⟨_, rfl, wpAny_pure h⟩))) fit)
    | exact wpAny_bind (wpAny_bind (m := Builtin.Tuple.tupleExact _) (wpAny_newObj_type (wpAny_pure (wpAny_pure ⟨_, rfl, wpAny_pure h⟩)) fit))
    | exact wpAny_bind (wpAny_bind (m := Builtin.Tuple.tupleExact _) (wpAny_newObj_type (wpAny_pure ⟨_, rfl, wpAny_pure h⟩) fit))
end
def tRevT (K : PySem.W.Frag) (te : TE) : TE := fun σ H Q => te σ H fun x H1 => ∃ a xs, x = .ref a ∧ SqT K H1 a xs ∧ ∀ p, H1 p = none → Q (.ref p) (upd H1 p (.tup xs.reverse))
/-- t[::-1] of a tuple -/
theorem pe_revT {X : Cx} {e : Expr} {te : TE} {k : Nat} {p1 p2 p3 pos : Pos} (he : PE X e te) : PE X (.Subscript e (.Slice none none (some (.UnaryOp .USub (.Constant (.int 1) k p1) p2)) p3) pos) (tRevT X.K te) := by
  refine ⟨fun pins s σ H Q I h => Subscript_ (thn (he.run pins s σ H _ I h) fun v s1 ⟨x, H1, I1, r1, q1⟩ => ?_)⟩
  obtain ⟨a, xs, ex, hx, q⟩ := q1
  subst ex
  cases r1
  have hst : PO X (some (.UnaryOp .USub (.Constant (.int 1) k p1) p2)) (tPart (tUn (rU fun i => .int (-i)) (tC (.int 1)))) := po_some (pe_un un_neg pe_int)
  refine wpAny_Slice (thn (po_none.run pins s1 σ H1 (fun o H2 => o = none ∧ H2 = H1) I1 ⟨rfl, rfl⟩) fun vl s2 ⟨l, H2, I2, pl, el, e2⟩ => ?_)
  subst el e2
  refine thn (po_none.run pins s2 σ H2 (fun o H3 => o = none ∧ H3 = H2) I2 ⟨rfl, rfl⟩) fun vu s3 ⟨u, H3, I3, pu, eu, e3⟩ => ?_
  subst eu e3
  refine thn (hst.run pins s3 σ H3 (fun o H4 => o = some (-1) ∧ H4 = H3) I3 ⟨1, rfl, -1, rfl, rfl, rfl⟩) fun vs s4 ⟨o, H4, I4, ps, eo, e4⟩ => ?_
  subst eo e4
  have I5 : Inv X pins σ H4 { s4 with heap := s4.heap.push { cls := .type "slice", data := .fields #[vl, vu, vs] } } := I4.kept (t' := s4.toks) fun b ob q => Heap.get?_push_of_some _ q
  cases pl
  cases pu
  cases ps
  obtain ⟨its, r, ht, hz⟩ := I5.tuple hx
  have hlen := r.length
  refine tail_any (ops := [.ref a, .ref s4.heap.objs.size]) ht.typeIs (PyProof.Rows.slot_tuple_getitem.lookup) (tuple_back ht (Heap.IsSliceOf.new ..) (by omega) ?_) (by with_unfolding_all rfl)
  refine ⟨.ref _, _, I5.laid (t' := s4.toks) (o := .tup xs.reverse) (fun b ob q => Heap.get?_push_of_some _ q) (Nat.le_refl _) ?_, rfl, q _ (I5.hok.fresh (Nat.le_refl _))⟩
  exact ⟨by rw [List.length_reverse]; exact hz, _, r.reverse, IsTup.new _ _⟩
/-- a list is extended by a tuple -/
theorem extend_meets (l b : Addr) (xs ys : Array Value) (n m : Nat) (od : Option Addr) (os : Array (Option Value)) (long : ¬ (!xs.isEmpty && Builtin.List.listTooLong (xs.size + ys.size)) = true) (hx : xs.size ≤ sizeLine) (hxy : (xs ++ ys).size ≤ sizeLine + 1) :
    Meets (Builtin.«list.extend» ⟨[.ref l, .ref b], []⟩) (fun _ R s => s.heap.get? l = some { cls := .type "list", dict := none, data := .seq xs n, slots := #[] } ∧ s.heap.get? b = some { cls := .type "tuple", dict := od, data := .seq ys m, slots := os } ∧
      R (.ok (.ret Value.none)) { s with heap := s.heap.update l (Obj.mapSeq (· ++ ys)) }) :=
  .of_wp fun prog w A R s h => by
    obtain ⟨hp, g, d, tk, o⟩ := s
    obtain ⟨hl, hb, h⟩ := h
    have f1 := AutoSeq1.idx_int
    have f2 := AutoSeq1.sub_tuple_tuple
    have f3 := AutoSeq1.sub_list_list
    have f4 := AutoSeq1.sub_tuple_list
    wp_walk using (wpAny_updateSeq hl rfl (hz := hx) (_hz' := hxy)), wpAny_loadPart' hl, wpAny_loadPart' hb
    exact ⟨_, rfl, h⟩
def rExtT (K : PySem.W.Frag) : V → List V → Hp → VK → Prop := fun x vs H Q => ∃ l b xs zs, x = .ref l ∧ vs = [.ref b] ∧ H l = some (.lst xs) ∧ SqT K H b zs ∧ xs.length + zs.length ≤ sizeLine ∧ Q .non (upd H l (.lst (xs ++ zs)))
theorem mt_extendT {X : Cx} : MtM X "list.extend" (rExtT X.K) := by
  intro pins s σ H x vs v us Q I rx rv h
  obtain ⟨l, b, xs, zs, rfl, rfl, hH, hB, hz, q⟩ := h
  cases rx
  obtain ⟨u, rfl, ru⟩ := rv.one
  cases ru
  obtain ⟨z, its, n, r, hl, e⟩ := I.lstM hH
  obtain ⟨its2, r2, ⟨o, ho, hc, n2, hd⟩, _⟩ := I.tuple hB
  obtain ⟨oc, od, odt, osl⟩ := o
  cases hc
  cases hd
  have l2 := r2.length
  have hsz : its.toArray.size + its2.toArray.size ≤ sizeLine := by rw [List.size_toArray, List.size_toArray]; omega
  have long : ¬ (!its.toArray.isEmpty && Builtin.List.listTooLong (its.toArray.size + its2.toArray.size)) = true := by
    rw [notLongL hsz, Bool.and_false]
    exact Bool.false_ne_true
  refine call_meets F.slot_list_extend ⟨_, e, rfl⟩ F.entry_list_extend (F.args_list_extend_2 _ _) (extend_meets l b its.toArray its2.toArray n n2 od osl long (by rw [List.size_toArray]; omega) (by rw [Array.size_append]; omega)) ⟨e, ho, ?_⟩
  refine ⟨.non, _, I.lset (its' := its ++ its2) hH e (by simp) (r.append r2) ?_, rfl, q⟩
  rw [List.length_append]
  omega
end PKZ
namespace PKZ
open PySem PySem.Spec PyProof.Rows L2
/-! dict(zip(e, e2)) -/
theorem zip_nokeys : typeLookup (.type "zip") "keys" = pure none := by
  rw [typeLookup_type, builtinLookup_eq_fast]; kernel_rfl
theorem zip_nogetattr : typeLookup (.type "zip") "__getattr__" = pure none := by
  rw [typeLookup_type, builtinLookup_eq_fast]; kernel_rfl
theorem zip_getattribute : entryFor table "zip.__getattribute__" = some Builtin.«object.__getattribute__» :=
  entryFor_alias (id' := "object.__getattribute__") (by kernel_rfl) (by decide +kernel) (by decide +kernel) (by kernel_rfl)
set_option maxRecDepth 8000 in
theorem zip_miss (a : Addr) (vs : Array Value) (u : Tok) :
    Meets (Builtin.«object.__getattribute__» ⟨[.ref a, .str "keys" u], []⟩) (fun A R s => s.heap.get? a = some { cls := .type "zip", dict := none, data := .fields vs, slots := #[] } ∧ raisesAttr (.ref a) "keys" A R s) :=
  Meets.of_wp fun prog w A R s hs => by
    obtain ⟨hp, g, d, tk, os⟩ := s
    obtain ⟨hx, hs⟩ := hs
    have hT : (⟨hp, g, d, tk, os⟩ : Shared).TypeIs (.ref a) "zip" := ⟨_, hx, rfl⟩
    have hmiss := zip_nokeys
    have hname : (["__module__", "__name__", "__qualname__", "__doc__", "__annotations__"] : List Str).contains "keys" = false := by decide +kernel
    have hsz : ("keys" : Str).length + 100 ≤ sizeLine := by first | size_fits | decide +kernel
    unfold Builtin.«object.__getattribute__»
    repeat (any_goals (first | assumption | wp_step))
    try simp only [hname, Bool.false_eq_true, if_false]
    repeat (any_goals (first | assumption | wp_step))
    exact wpAny_raiseAttrError hs.1 hs.2 (attrMsg_fits (by decide +kernel) hsz)
section
variable {prog : Program} {w : World} {A : Around} {E : Value → Shared → Prop}
set_option maxRecDepth 8000 in
theorem zip_has_no_keys {s : Shared} {a : Addr} {vs : Array Value} {Q : Option Value → Shared → Prop} (hx : s.heap.get? a = some { cls := .type "zip", dict := none, data := .fields vs, slots := #[] }) (hA : A.handled = none)
    (h : ∀ h' tk, (∀ b ob, s.heap.get? b = some ob → h'.get? b = some ob) → Q none { s with heap := h', toks := tk }) : wpAny (model prog w) A (getAttr? (.ref a) "keys") Q E s := by
  obtain ⟨hp, g, d, tk, os⟩ := s
  have hT : ∀ tk', (⟨hp, g, d, tk', os⟩ : Shared).TypeIs (.ref a) "zip" := fun _ => ⟨_, hx, rfl⟩
  have f1 := sub_AttributeError
  have f3 := PySem.F.slot_zip_getattribute.lookup
  have f4 := PySem.F.slot_zip_getattribute.bind (.ref a)
  have f5 := zip_nogetattr
  unfold getAttr? getAttrBy? getAttrBy
  repeat (any_goals (first | assumption | exact hT _ | ((with_reducible show wpAny _ _ (call (Value.builtin "zip.__getattribute__") _ _) _ _ _); refine call_meets PySem.F.slot_zip_getattribute (hT _) zip_getattribute (PySem.F.args_zip_getattribute_2 _ _) (zip_miss _ _ _) ⟨hx, hA, fun h' tk' e hx' => ?_⟩) | wp_step))
  obtain ⟨t', u', he⟩ := hx'.there
  show wpAny _ _ (getattributeRaised _ _ _ _ _ _ _) _ _ _
  unfold getattributeRaised
  repeat (any_goals (first | assumption | wp_step))
  all_goals first | exact h _ _ hx'.keeps | (dsimp only; repeat (any_goals (first | assumption | exact h _ _ hx'.keeps | wp_step)))
end
end PKZ
namespace PKZ
open PySem PySem.Spec PyProof.Rows L2
section
variable {prog : Program} {w : World} {A : Around} {E : Value → Shared → Prop} {ka kb : Kd} {z TI TO i1 i2 l1 l2 S : Addr} {xs ys : Array Value}
theorem dz_loop {R : Result → Shared → Prop} {res : Value} (hh : A.handled = none) (D : ZipApart z TI TO i1 i2 l1 l2) (hS : S ≠ z ∧ S ≠ TI ∧ S ≠ TO ∧ S ≠ i1 ∧ S ≠ i2 ∧ S ≠ l1 ∧ S ≠ l2) :
    ∀ (rest : List (Key × Value)) (i : Nat) (acc : List (Key × Value)) (ix : Int) (t : Tok) (s : Shared), (∀ (j : Nat) (q : Key × Value), rest[j]? = some q → ∃ u, xs[i + j]? = some u ∧ ys[i + j]? = some q.2 ∧ keyIs q.1 u = true) →
      min xs.size ys.size = i + rest.length → acc.length + rest.length ≤ sizeLine → ZSt ka kb z TI TO i1 i2 l1 l2 xs ys i s.heap → s.heap.DictOf (mixKind prog w) S acc →
      (∀ h' tk, h'.DictOf (mixKind prog w) S (merged acc rest) → (∀ b o, b ≠ S → b ≠ z → b ≠ TO → b ≠ i1 → b ≠ i2 → s.heap.get? b = some o → h'.get? b = some o) → R (.ok (.ret res)) { s with heap := h', toks := tk }) →
      codeAny (model prog w) A (.builtin "dict.update.loop" ⟨[.ref S, .ref z, .int ix t, res], []⟩) R s
  | [], i, acc, ix, t, s, hp, hn, hl, Z, hd, hR => by
    refine codeAny_builtin ud_entry ?_
    (rw [Around.under_plainId ud_plain])
    show wpAny _ A.in1 (pyNext (.ref z) >>= _) _ _ s
    have hend : xs[i]? = none ∨ ys[i]? = none := by
      have hn : min xs.size ys.size = i := hn
      rcases Nat.le_total xs.size ys.size with q | q
      · exact .inl (Array.getElem?_eq_none (by omega))
      · exact .inr (Array.getElem?_eq_none (by omega))
    refine wpAny_bind (zst_done (A := A.in1) hh D Z hend fun h' e => ?_)
    show wpAny _ A.in1 (Builtin.Dict.addKeywords S [] >>= _) _ _ _
    refine wpAny_bind (wpAny_pure (wpAny_pure (hR h' s.toks (hd.at fun o q => e _ o hS.1 hS.2.2.1 hS.2.2.2.1 hS.2.2.2.2.1 q) fun b o _ b2 b3 b4 b5 q => e b o b2 b3 b4 b5 q)))
  | p :: rest, i, acc, ix, t, s, hp, hn, hl, Z, hd, hR => by
    obtain ⟨u, hu, hv, hk⟩ := hp 0 p rfl
    rw [List.length_cons] at hn hl
    refine codeAny_builtin ud_entry ?_
    (rw [Around.under_plainId ud_plain])
    show wpAny _ A.in1 (pyNext (.ref z) >>= _) _ _ s
    refine wpAny_bind (zst_item (A := A.in1) D Z (by simpa using hu) (by simpa using hv) fun h1 Z1 pr sz e => ?_)
    have hd1 : h1.DictOf (mixKind prog w) S acc := hd.at fun o q => e _ o hS.1 hS.2.2.1 hS.2.2.2.1 hS.2.2.2.2.1 q
    show wpAny _ A.in1 (holding [Value.ref s.heap.objs.size] _ >>= _) _ _ _
    refine wpAny_bind (wpAny_holding (wpAny_bind (wpAny_tryCatch ?_)))
    unfold Builtin.Dict.pairItems
    refine wpAny_bind (wpAny_typeOf (T := "tuple") ⟨_, pr, rfl⟩ ?_)
    rw [if_pos (by first | decide | rfl | simp)]
    refine wpAny_bind (wpAny_seqItems pr rfl (wpAny_pure ?_))
    show wpAny _ A.in1 (holding [u, p.2] (dictSet S u p.2)) _ _ _
    refine wpAny_holding (wpAny_dictSet_pairs (knd := mixKind prog w) (k := p.1) hk hd1 (fun h2 hd2 e2 => ?_) (by omega))
    have kS : ∀ o, h1.get? S = some o → ∃ o', h2.get? S = some o' := fun o q => let ⟨q', _, _, hq, _⟩ := hd2; ⟨q', hq⟩
    refine wpAny_pure ⟨plainId_quiet ud_plain _, dz_loop hh D hS rest (i + 1) (stored acc p.1 p.2) (ix + 1) 0 _ (fun j q' h => ?_) (by omega) ?_ (Z1.keep hS (fun b o hb q => e2.extBut b o hb q) kS) hd2 fun h' tk hd' k => ?_⟩
    · obtain ⟨u', a1, a2, a3⟩ := hp (j + 1) q' (by simpa using h)
      exact ⟨u', by rw [show i + 1 + j = i + (j + 1) by omega]; exact a1, by rw [show i + 1 + j = i + (j + 1) by omega]; exact a2, a3⟩
    · have := stored_length_le acc p.1 p.2
      omega
    · exact hR h' tk hd' fun b o b1 b2 b3 b4 b5 q => k b o b1 b2 b3 b4 b5 (e2.extBut b o b1 (e b o b2 b3 b4 b5 q))
theorem dz_call {s : Shared} {prs : List (Key × Value)} {Q : Value → Shared → Prop} (hh : A.handled = none) (D : ZipApart z TI TO i1 i2 l1 l2) (Z : ZSt ka kb z TI TO i1 i2 l1 l2 xs ys 0 s.heap) (zo : Zo s.heap z TI TO .none false)
    (lTI : TI < s.heap.objs.size) (l1l : l1 < s.heap.objs.size) (l2l : l2 < s.heap.objs.size) (hp : ∀ (j : Nat) (q : Key × Value), prs[j]? = some q → ∃ u, xs[j]? = some u ∧ ys[j]? = some q.2 ∧ keyIs q.1 u = true) (hn : min xs.size ys.size = prs.length) (hl : prs.length ≤ sizeLine)
    (hQ : ∀ h' tk, h'.DictOf (mixKind prog w) s.heap.objs.size (merged [] prs) → (∀ b o, b ≠ z → b ≠ TO → b ≠ i1 → b ≠ i2 → s.heap.get? b = some o → h'.get? b = some o) → Q (.ref s.heap.objs.size) { s with heap := h', toks := tk }) :
    wpAny (model prog w) A (call (.type "dict") [.ref z]) Q E s := by
  have zl : z < s.heap.objs.size := Heap.lt_size zo
  have TOl : TO < s.heap.objs.size := by obtain ⟨_, _, q⟩ := Z.to; exact Heap.lt_size q
  have i1l : i1 < s.heap.objs.size := by obtain ⟨o, q, _⟩ := Kd.it_get Z.it1; exact Heap.lt_size q
  have i2l : i2 < s.heap.objs.size := by obtain ⟨o, q, _⟩ := Kd.it_get Z.it2; exact Heap.lt_size q
  refine callType_codes (Q₁ := fun obj s₁ => obj = .ref s.heap.objs.size ∧ s₁ = { s with heap := s.heap.push { cls := .type "dict", data := .dict #[] } }) PySem.F.kt_called_dict (PySem.F.kt_typeCall_dict_1 _) PySem.F.entry_dict_init (kt_code_dict_new _ ⟨rfl, rfl⟩) fun obj s₁ h₁ => ?_
  obtain ⟨rfl, rfl⟩ := h₁
  refine ⟨⟨_, Heap.get?_push_size _ rfl, rfl⟩, PySem.F.args_dict_init_2 _ _, ?_⟩
  have hnew : (s.heap.push { cls := .type "dict", data := .dict #[] }).DictOf (mixKind prog w) s.heap.objs.size [] := Heap.DictOf.new s.heap
  unfold Builtin.«dict.__init__»
  refine wpAny_bind ?_
  unfold Builtin.Dict.selfAndRest
  refine wpAny_bind (wpAny_notOrdered_dict hnew.typeIs ?_)
  show wpAny _ _ (pure (s.heap.objs.size, [Value.ref z])) _ _ _
  refine wpAny_pure ?_
  show wpAny _ _ (Builtin.Dict.updateFrom "dict.__init__" s.heap.objs.size (.ref z) [] .none) _ _ _
  unfold Builtin.Dict.updateFrom
  have kp : ∀ b o, s.heap.get? b = some o → (s.heap.push { cls := .type "dict", data := .dict #[] }).get? b = some o := fun b o e => Heap.get?_push_of_some _ e
  refine wpAny_bind (wpAny_typeOf (T := "zip") ⟨_, kp _ _ zo, rfl⟩ ?_)
  rw [if_pos (by first | decide | rfl | simp)]
  refine wpAny_bind (zip_has_no_keys (kp _ _ zo) hh fun h1 tk1 k1 => ?_)
  simp only [Option.isNone_none, if_true]
  refine wpAny_bind (wpAny_rule ?_)
  have k2 : ∀ b o, s.heap.get? b = some o → h1.get? b = some o := fun b o e => k1 b o (kp b o e)
  refine wpAny_bind (wpAny_pyIter_zip (k2 _ _ zo) ?_)
  refine wpAny_pure ⟨plainId_quiet ud_plain _, ?_⟩
  have ne : ∀ b, b < s.heap.objs.size → s.heap.objs.size ≠ b := fun b h => Ne.symm (Nat.ne_of_lt h)
  refine dz_loop (w := w) (prog := prog) (A := A.in1) (s := ⟨h1, _, _, _, _⟩) (ka := ka) (kb := kb) (xs := xs) (ys := ys) hh D ⟨ne _ zl, ne _ lTI, ne _ TOl, ne _ i1l, ne _ i2l, ne _ l1l, ne _ l2l⟩ prs 0 [] _ _ (fun j q e => ?_) ?_ ?_ ?_ ?_ fun h' tk hd' k => ?_
  · obtain ⟨u, a1, a2, a3⟩ := hp j q e
    exact ⟨u, by rw [Nat.zero_add]; exact a1, by rw [Nat.zero_add]; exact a2, a3⟩
  · rw [Nat.zero_add]; exact hn
  · show 0 + prs.length ≤ sizeLine
    rw [Nat.zero_add]; exact hl
  · exact Z.keep ⟨ne _ zl, ne _ lTI, ne _ TOl, ne _ i1l, ne _ i2l, ne _ l1l, ne _ l2l⟩ (fun b o _ q => k2 b o q) fun o q => absurd (Heap.lt_size q) (Nat.lt_irrefl _)
  · exact hnew.at fun o q => k1 _ o q
  · exact ⟨rfl, hQ h' tk hd' fun b o b1 b2 b3 b4 q => k b o (Nat.ne_of_lt (Heap.lt_size q)) b1 b2 b3 b4 (k2 b o q)⟩
end
end PKZ
namespace PKZ
open PySem PySem.Spec PyProof.Rows L2
def rDictZip (K : PySem.W.Frag) : List V → Hp → VK → Prop := fun vs H Q => ∃ (a b : Addr) (ks : List Key) (ys : List V), vs = [.ref a, .ref b] ∧ Sq2 K H a (ks.map kV) ∧ Sq2 K H b ys ∧ min ks.length ys.length ≤ sizeLine ∧
  ∀ p, H p = none → Q (.ref p) (upd H p (.dK (mergeK [] (ks.zip ys))))
def tDictZip (K : PySem.W.Frag) (ta : TA) : TE := fun σ H Q => ta σ H fun vs H1 => rDictZip K vs H1 Q
theorem kv_zip {X : Cx} : ∀ {ks : List Key} {ys : List V} {ia ib : List Value}, Vals (ks.map kV) ia → Vals ys ib →
    ∃ prs : List (Key × Value), KV (ks.zip ys) prs ∧ min ia.length ib.length = prs.length ∧ ∀ (j : Nat) (q : Key × Value), prs[j]? = some q → ∃ u, ia[j]? = some u ∧ ib[j]? = some q.2 ∧ keyIs q.1 u = true
  | [], ys, ia, ib, va, vb => by
    cases va
    exact ⟨[], by rw [List.zip_nil_left]; exact .nil, by simp, fun j q e => by simp at e⟩
  | k :: ks, [], ia, ib, va, vb => by
    cases vb
    exact ⟨[], by rw [List.zip_nil_right]; exact .nil, by simp, fun j q e => by simp at e⟩
  | k :: ks, y :: ys, ia, ib, va, vb => by
    rw [List.map_cons] at va
    cases va with
    | cons r t => cases vb with
      | cons r2 t2 =>
        rename_i u us u2 us2
        obtain ⟨prs, k1, k2, k3⟩ := kv_zip (X := X) t t2
        refine ⟨(k, u2) :: prs, ?_, ?_, fun j q e => ?_⟩
        · rw [List.zip_cons_cons]
          exact .cons ⟨rfl, r2⟩ k1
        · rw [List.length_cons, List.length_cons, List.length_cons, ← k2]
          omega
        · cases j with
          | zero =>
            have e' : (k, u2) = q := Option.some.inj e
            subst e'
            exact ⟨u, rfl, rfl, kV_is (P := X.prog) (w := X.w) r⟩
          | succ j =>
            obtain ⟨b, e1, e2, e3⟩ := k3 j q (by simpa using e)
            exact ⟨b, by simpa using e1, by simpa using e2, e3⟩
/-- dict(zip(e, e2)) -/
theorem pe_dictZip {X : Cx} {e e2 : Expr} {ta : TA} {p p2 pos pos2 : Pos} (hc : X.calm = true) (hg : Gl X "dict") (hm : X.mg "dict" = none) (hv : bootBuiltins "dict" = some (.type "dict")) (hg2 : Gl X "zip") (hm2 : X.mg "zip" = none) (ha : PA X [e, e2] ta)
    (hs : starEach [.Call (.Name "zip" p2) [e, e2] [] pos2] X.env = (false, eval (.Call (.Name "zip" p2) [e, e2] [] pos2) X.env) :: starEach [] X.env := by rfl)
    (hs2 : starEach [e, e2] X.env = (false, eval e X.env) :: starEach [e2] X.env := by rfl) (hpl : (backTo pos2 (starEach [e2] X.env)).any (·.1) = false := by rfl) :
    PE X (.Call (.Name "dict" p) [.Call (.Name "zip" p2) [e, e2] [] pos2] [] pos) (tDictZip X.K ta) := by
  refine ⟨fun pins s σ H Q I hq => ?_⟩
  refine wpAny_Call_Name_kw (ld_blt I hg hm hv (PyProof.Rows.callWith_type1 ?_ hs rfl))
  rw [hs]
  show wpAny _ _ (spliced ((false, eval (.Call (.Name "zip" p2) [e, e2] [] pos2) X.env) :: backTo pos (starEach [] X.env))) _ _ s
  refine Calls.spliced_cons (Call_ (ld_blt I hg2 hm2 PyProof.Rows.boot_zip (PyProof.Rows.callWith_type1 (thn (ha.run pos2 pins s σ H _ I hq) fun us s1 ⟨vs, H1, I1, r1, q1⟩ => ?_) hs2 hpl)))
  obtain ⟨a, b, ks, ys, rfl, qa, qb, hmin, q⟩ := q1
  obtain ⟨u, us, rfl, ru, rr⟩ : ∃ u us', us = u :: us' ∧ RelV (V.ref a) u ∧ Vals [V.ref b] us' := by cases r1 with | cons r t => exact ⟨_, _, rfl, r, t⟩
  obtain ⟨u2, rfl, ru2⟩ : ∃ u2, us = [u2] ∧ RelV (V.ref b) u2 := by cases rr with | cons r t => cases t; exact ⟨_, rfl, r⟩
  obtain rfl : u = Value.ref a := ru
  obtain rfl : u2 = Value.ref b := ru2
  obtain ⟨ka, ia, va, sa⟩ := sq_of I1 qa
  obtain ⟨kb, ib, vb, sb⟩ := sq_of I1 qb
  have la := va.length
  rw [List.length_map] at la
  have lb := vb.length
  obtain ⟨prs, rel, hl, hpr⟩ := kv_zip (X := X) va vb
  have hlen : prs.length ≤ sizeLine := by rw [← hl, ← la, ← lb]; exact hmin
  refine call_zg sa sb fun g Z zo sz kp => Calls.spliced_nil ?_
  have hal := Kd.sq_lt sa
  have hbl := Kd.sq_lt sb
  have hS : s1.heap.objs.size ≤ g.objs.size := by rw [sz]; exact Nat.le_add_right _ _
  refine dz_call (s := { s1 with heap := g }) (prs := prs) (I1.ok.hd hc) (PySem.W.ktu_apart s1.heap.objs.size a b hal hbl) Z zo (Heap.lt_size Z.ti) (Nat.lt_of_lt_of_le hal hS) (Nat.lt_of_lt_of_le hbl hS) (fun j q e => ?_) (by rw [List.size_toArray, List.size_toArray]; exact hl) hlen fun h' tk hd' k => ?_
  · obtain ⟨u, e1, e2, e3⟩ := hpr j q e
    exact ⟨u, by simpa using e1, by simpa using e2, e3⟩
  · dsimp only at hd' k ⊢
    have hk : ∀ b o, s1.heap.get? b = some o → h'.get? b = some o := fun b o e => by
      have lt := Heap.lt_size e
      exact k b o (Nat.ne_of_lt (Nat.lt_of_lt_of_le lt (Nat.le_add_right _ _))) (Nat.ne_of_lt (Nat.lt_of_lt_of_le lt (Nat.le_add_right _ _))) (Nat.ne_of_lt lt) (Nat.ne_of_lt (Nat.lt_of_lt_of_le lt (Nat.le_add_right _ _))) (kp _ _ e)
    have nS : H1 g.objs.size = none := I1.hok.fresh hS
    have hm : (g.objs.size == sysModules) = false := beq_eq_false_iff_ne.mpr (Nat.ne_of_gt (Nat.lt_of_lt_of_le I1.big hS))
    have hz : (mergeK [] (ks.zip ys)).length ≤ sizeLine := by
      refine Nat.le_trans (length_mergeK _ []) ?_
      rw [List.length_nil, Nat.zero_add, rel.length]
      exact hlen
    exact ⟨.ref g.objs.size, upd H1 g.objs.size (.dK (mergeK [] (ks.zip ys))), I1.laid (t' := tk) hk hS (show ObjOk X.prog X.w _ _ _ (.dK (mergeK [] (ks.zip ys))) from ⟨hz, hm, merged [] prs, KV.merge rel .nil, hd'⟩), rfl, q _ nS⟩
end PKZ
/-! del xs[-m:], m from 1 to the length: the list's last m items go -/
namespace L2.PKR
open PySem PySem.Spec PyProof.Rows
theorem keep_first {sel : Nat → Bool} {a : Nat} : ∀ (its : List Value) (j : Nat), (∀ k, k < j + its.length → sel k = decide (a ≤ k)) →
    (its.zipIdx j).filterMap (fun p => if sel p.2 = true then none else some p.1) = its.take (a - j)
  | [], _, _ => by simp
  | x :: r, j, h => by
    have ih := keep_first r (j + 1) (fun k hk => h k (by rw [List.length_cons]; omega))
    have e := h j (by rw [List.length_cons]; omega)
    rw [List.zipIdx_cons]
    by_cases q : a ≤ j
    · rw [decide_eq_true q] at e
      rw [List.filterMap_cons_none (by simp only [e, if_true]), ih, show a - (j + 1) = 0 by omega, show a - j = 0 by omega, List.take_zero, List.take_zero]
    · rw [decide_eq_false q] at e
      rw [List.filterMap_cons_some (b := x) (by simp only [e]; rfl), ih, show a - j = (a - (j + 1)) + 1 by omega, List.take_succ_cons]
theorem tail_bounds {m n : Nat} (h : m ≤ n) (h0 : 0 < m) : sliceBounds (some (-(m : Int))) none none n = (((n - m : Nat) : Int), (n : Int), 1) := by
  simp only [sliceBounds, Option.getD_none]
  have h1 : (-(m : Int)) < 0 := by omega
  simp only [h1, if_true, show (1 : Int) > 0 by decide]
  congr 1
  omega
section
variable {prog : Program} {w : World} {A : Around} {E : Value → Shared → Prop} {s : Shared}
theorem del_tail {l sl : Addr} {its : List Value} {n m : Nat} {vl : Value} {Q : Unit → Shared → Prop} (e : s.heap.get? l = some { cls := .type "list", data := .seq its.toArray n }) (hs : s.heap.IsSliceOf sl vl .none .none)
    (pl : IsPart vl (some (-(m : Int)))) (h0 : 0 < m) (hm : m ≤ its.length) (hz : its.length ≤ sizeLine)
    (h : ∀ f : Array Value → Array Value, f its.toArray = (its.take (its.length - m)).toArray → Q () { s with heap := s.heap.update l (Obj.mapSeq f) }) : wpAny (model prog w) A (delItem (.ref l) (.ref sl)) Q E s := by
  have hl : s.heap.IsList l its.toArray := PySem.IsL.isList e
  obtain ⟨os, hos, hcs, hds⟩ := id hs
  have ty : s.TypeIs (.ref sl) "slice" := ⟨os, hos, hcs⟩
  refine wpAny_delItem_slot hl.typeIs (by decide) F.slot_list_delitem (wpAny_call_entry F.slot_list_delitem hl.typeIs F.entry_list_delitem ?_ (F.args_list_delitem_2 _ _))
  show wpAny _ _ (Builtin.List.listSubscript? (.ref sl) >>= _) _ _ s
  unfold Builtin.List.listSubscript?
  refine wpAny_bind (wpAny_bind (wpAny_specialOf ty slice_no_index ?_))
  simp only [Option.isNone_none, if_true]
  refine wpAny_pure ?_
  show wpAny _ _ (typeOf (.ref sl) >>= _) _ _ s
  refine wpAny_bind (wpAny_typeOf ty ?_)
  first | (rw [if_neg (by decide)]) | (refine PySem.W.KFB.if_not (by decide) ?_)
  rw [listSliceParts_eq]
  refine wpAny_bind (wpAny_bind (wpAny_field hos hds (x := .none) rfl (wpAny_bind (wpAny_listPart .none ?_)))); rw [if_neg (show ¬ ((rawPart none == rawInt 0) = true) from Bool.false_ne_true)]
  refine wpAny_bind (wpAny_field hos hds (x := vl) rfl (wpAny_bind (wpAny_listPart pl (wpAny_bind (wpAny_field hos hds (x := .none) rfl (wpAny_bind (wpAny_listPart .none (wpAny_pure ?_))))))))
  unfold Builtin.List.listItems
  refine wpAny_bind (wpAny_bind (wpAny_seqItems e rfl (wpAny_pure ?_)))
  refine wpAny_bind (wpAny_of_eq ((sliceIndices_raw (some (-(m : Int))) none none its.toArray.size (by simp)).trans (congrArg (pure : Int × Int × Int → Sem (Int × Int × Int)) (tail_bounds (n := its.toArray.size) (by simpa using hm) h0))) ?_)
  refine wpAny_bind (wpAny_rule ?_)
  have lt : its.toArray.size = its.length := List.size_toArray
  show wpAny _ _ (updateSeq l _ >>= _) _ _ _
  refine wpAny_bind (wpAny_updateSeq (hz := by rw [lt]; exact hz) (_hz' := ?fit) e rfl (wpAny_bind (wpAny_letGo (wpAny_pure ⟨.none, rfl, h _ (congrArg List.toArray ?same)⟩))))
  case fit =>
    rw [List.size_toArray]
    exact Nat.le_succ_of_le (Nat.le_trans (List.length_filterMap_le _ _) (by rw [List.length_zipIdx]; exact hz))
  case same =>
    refine (keep_first (a := its.length - m) its 0 fun k hk => ?_)
    show (if (1 : Int) > 0 then (decide (((its.toArray.size - m : Nat) : Int) ≤ (k : Int)) && decide ((k : Int) < (its.toArray.size : Int)) && (((k : Int) - ((its.toArray.size - m : Nat) : Int)) % 1 == 0)) else _) = _
    rw [if_pos (by decide), lt, Int.emod_one]
    have k2 : (k : Int) < (its.length : Int) := by omega
    rw [decide_eq_true k2, Bool.and_true]
    by_cases q : its.length - m ≤ k
    · rw [decide_eq_true q, decide_eq_true (show ((its.length - m : Nat) : Int) ≤ (k : Int) by omega)]; rfl
    · rw [decide_eq_false q, decide_eq_false (show ¬ ((its.length - m : Nat) : Int) ≤ (k : Int) by omega)]; rfl
end
def tDelTail (to ti : TE) : TS := fun D σ H => to σ H fun x H1 => ti σ H1 fun y H2 => ∃ (l : Addr) (xs : List V) (m : Nat), x = .ref l ∧ y = .int (-(m : Int)) ∧ H2 l = some (.lst xs) ∧ 0 < m ∧ m ≤ xs.length ∧ D.nx σ (upd H2 l (.lst (xs.take (xs.length - m))))
theorem ps_delTail {X : Cx} {o i : Expr} {to ti : TE} {p2 tpos pos : Pos} (ho : PE X o to) (hi : PE X i ti) : PS X (.Delete [.Subscript o (.Slice (some i) none none p2) tpos] pos) (tDelTail to ti) := by
  refine ⟨fun pins s σ H D I h => wpAny_Delete (wpAny_deleteEach_cons (wpAny_delete_Subscript (thn (ho.run pins s σ H _ I h) fun u s1 ⟨x, H1, I1, rx, q1⟩ => wpAny_Slice ?_)))⟩
  rw [evalPart_some]
  refine thn (hi.run pins s1 σ H1 _ I1 q1) fun v s2 ⟨y, H2, I2, ry, l, xs, m, ex, ey, hH, h0, hm, q2⟩ => ?_
  subst ex ey
  cases (show u = Value.ref l from rx)
  obtain ⟨t, rfl⟩ := (show ∃ t, v = Value.int (-(m : Int)) t from ry)
  rw [evalPart_none]
  refine wpAny_pure (wpAny_pure ?_)
  have I3 : Inv X pins σ H2 { s2 with heap := s2.heap.push { cls := .type "slice", data := .fields #[.int (-(m : Int)) t, .none, .none] } } := I2.kept (t' := s2.toks) fun b ob z => Heap.get?_push_of_some _ z
  obtain ⟨hz, its, n, r, hl, e⟩ := I3.lstM hH
  refine del_tail (m := m) e (Heap.IsSliceOf.new ..) (.int _ _) h0 (by omega) (by omega) fun f hf => wpAny_deleteEach_nil ⟨σ, _, I3.lset (its' := its.take (its.length - m)) (t' := s2.toks) hH e hf (by rw [← hl]; exact r.take _) (by rw [List.length_take]; omega), q2⟩
end L2.PKR
namespace PKE
open PySem L2
/-! == and != of data of any depth that there is room for -/
section
variable {X : Cx}
def rEqN (K : PySem.W.Frag) (n : Nat) : R2 := fun x y H Q => ∃ d e, Dp K H x d ∧ Dp K H y e ∧ d.canLay0 = true ∧ e.canLay0 = true ∧ (d.depth ≤ n ∨ e.depth ≤ n) ∧ Q (.bl (PyData.eqv d e)) H
theorem op_eqN {n : Nat} (hu : X.A.units + n < cLine) : OpR X (compareOp .Eq) (rEqN X.K n) := by
  intro pins s σ H x y v u Q I rx ry h
  obtain ⟨d, e, hd, he, sd, se, hn, q⟩ := h
  obtain ⟨as, r1⟩ := Dp.reads I d x v hd rx
  obtain ⟨bs, r2⟩ := Dp.reads I e y u he ry
  refine SeqAt.compareEq_reads r1 r2 sd se ?_ ⟨.bl _, H, I, rfl, q⟩
  rcases hn with h | h
  · exact Nat.lt_of_le_of_lt (Nat.add_le_add_left (Nat.le_trans (Nat.min_le_left _ _) h) _) hu
  · exact Nat.lt_of_le_of_lt (Nat.add_le_add_left (Nat.le_trans (Nat.min_le_right _ _) h) _) hu
end
end PKE
namespace PK
open PySem L2
/-- what len(xs) asks, by its name (within comprehensions) -/
def rLenS (K : PySem.W.Frag) : List V → Hp → VK → Prop := fun xs H Q => ∃ p ys, xs = [V.ref p] ∧ (SqL K H p ys ∨ SqT K H p ys) ∧ Q (.int ys.length) H
theorem call_lenS {X : Cx} : CallR X (.builtin "len") (rLenS X.K) := call_len_seq
end PK
/-! xs[-1] += e -/
namespace L2.PKAg
open PySem PySem.Spec PyProof.Rows L2
section
variable {X : Cx}
def rLastL (K : PySem.W.Frag) : R2 := fun x y H Q => ∃ p xs i v, x = .ref p ∧ y = .int i ∧ i < 0 ∧ SqL K H p xs ∧ atI xs i = some v ∧ Q v H
theorem pg_last : PGet X (rLastL X.K) := by
  intro pins s σ H x y v u Q I rx ry h
  obtain ⟨p, xs, i, z, rfl, rfl, hi, hq, he, q⟩ := h
  cases rx
  obtain ⟨t, rfl⟩ := ry
  obtain ⟨its, r, pl, hz⟩ := I.list hq
  obtain ⟨j, h1, h2, h3, h4, h5⟩ := atI_get he
  obtain ⟨w, ew, rw'⟩ := r.get h2
  have hl := r.length
  have hn := line63
  have hj : (i + (its.toArray.size : Int)).toNat = j := by
    rw [seqIndex_neg (by omega) h4] at h1
    rw [List.size_toArray, ← hl]
    exact Option.some.inj h1
  refine thn (wpAny_getItem_list_neg (Q := fun r s' => r = w ∧ EP X pins σ Q r s') pl.isList (by omega) (by rw [List.size_toArray] <;> omega) (by omega) (by rw [hj]; simpa using ew) ⟨rfl, ⟨z, H, I, rw', q⟩⟩) ?_
  intro r s' h
  exact h.2
end
/-! a method of a built-in type inside a comprehension: the fragment is named -/
section
variable {X : Cx} {T name id : String} {r : V → List V → Hp → VK → Prop} {o e : Expr} {es : List Expr} {to : TE} {t : TA} {apos cpos : Pos}
theorem pe_bmK {K : PySem.W.Frag} (hk : X.K = K) (pa : PlainAttrs T) (slot : Slot T name id) (hty : typeOf (.builtin id) = pure (.type "method_descriptor")) (hm : MtR X id r) (ho : PE X o to) (ha : PA X (e :: es) t)
    (hbase : attributeBase o name X.env (eval o X.env) = eval o X.env := by rfl)
    (hfew : ((backTo cpos (starEach (e :: es) X.env)).all (fun x => !x.1) && (backToKw cpos (keywordEach [] X.env)).all (fun x => x.1.isSome)
      && decide ((e :: es).length + ([] : List Keyword).length + (if ([] : List Keyword).isEmpty then 0 else 1) < 30)) = true := by rfl)
    (hline : (apos.endLine == cpos.line) = true := by rfl) (hs : starEach (e :: es) X.env = (false, eval e X.env) :: starEach es X.env := by rfl) (hplain : (backTo cpos (starEach es X.env)).any (·.1) = false := by rfl) :
    PE X (.Call (.Attribute o name apos) (e :: es) [] cpos) (tBM K T r to t) := by
  subst hk
  exact pe_bm pa slot hty hm ho ha hbase hfew hline hs hplain
end
end L2.PKAg
/-! a list comprehension whose element may raise (by calls): the exception leaves the block, then the def -/
namespace L2
open PySem PySem.Spec PyProof.Rows
namespace PKE2
section
variable {X : Cx} {pins : List (Addr × Obj)} {σ : St} {H9 H' : Hp} {s9 s' : Shared} {E0 : XK}
/-- a heap without one address -/
theorem hide1 (B : Heap) (C : Addr) : ∃ B' : Heap, B'.get? C = none ∧ (∀ b o, b ≠ C → B.get? b = some o → B'.get? b = some o) ∧ ∀ b o, B'.get? b = some o → B.get? b = some o :=
  ⟨PySem.W.hideAll B [C], PySem.W.hideAll_none _ (List.mem_singleton.mpr rfl), fun b o n e => PySem.W.hideAll_get _ e (fun z => n (List.mem_singleton.mp z)), fun b o e => PySem.W.of_hideAll _ e⟩
/-- behind a call in the block: what is in flight leaves the block, whose names (at C) are let go, and is in the air of the def -/
theorem out_of_block {ce : Env} {C : Addr} {m : Str → Option Value} (hst : X.stack = X.env :: X.outer) (hfr : X.env.frame = some X.env.locals) (tk : Takes X (fun cls d _ H => E0 cls d H)) (I : Inv X pins σ H9 s9) (hce : ce.frame = X.env.frame) (hC : ce.locals = C)
    (hm : s9.heap.Ns C m) (n9 : H9 C = none) (fpo : ∀ H', H' C = none → FpOk X pins H' C) {u : Value} (c : CX X.prog X.w X.stack H9 s9 E0 u s') :
    notedBy (model X.prog X.w) X.A ce (fun e s2 => CompFails (model X.prog X.w) X.A X.xe ce e s2) u s' := by
  obtain ⟨a, B, H', cls, d, rfl, fl, hok, ub, na, os, ag, hE⟩ := c
  obtain ⟨oC, es, ep, hoC, hdC, rC⟩ := id hm
  have f0 := fpo H9 n9
  have nCf : C ∉ frs X.stack := fun z => by
    rcases List.mem_cons.mp (I.stkSub C z) with e | e
    · exact f0.2.1 e
    · exact f0.2.2.1 e
  have bC : B.get? C = some oC := ub.keep C oC hoC n9 nCf
  have sC : s'.heap.get? C = some oC := fl.1 C oC bC
  have nC' : H' C = none := ub.free C oC hoC n9
  have f1 := fpo H' nC'
  have frames : X.A.frames = some (X.env :: X.outer) := by rw [I.ok.frames, hst]
  obtain ⟨B', b1, b2, b3⟩ := hide1 B C
  -- what is kept of the state at the call, without the block's names and the exception
  obtain ⟨G, g1, g2⟩ := restrict s'.heap (fun b => (B'.get? b).isSome || decide (b ∈ frs X.stack))
  have inB : ∀ {b : Addr} {o : Obj}, B'.get? b = some o → s'.heap.get? b = some o := fun {b o} e => fl.1 b o (b3 b o e)
  have toG : ∀ {b : Addr} {o : Obj}, B'.get? b = some o → G.get? b = some o := fun {b o} e => by rw [g1 b (by simp [e])]; exact inB e
  have frG : ∀ {b : Addr}, b ∈ frs X.stack → G.get? b = s'.heap.get? b := fun {b} hb => g1 b (by simp [hb])
  have ofG : ∀ {b : Addr} {o : Obj}, G.get? b = some o → s'.heap.get? b = some o ∧ ((B'.get? b).isSome = true ∨ b ∈ frs X.stack) := fun {b o} e => by
    cases q : ((B'.get? b).isSome || decide (b ∈ frs X.stack)) with
    | true => rw [g1 b q] at e; exact ⟨e, by simpa [Bool.or_eq_true] using q⟩
    | false => rw [g2 b q] at e; cases e
  have hokB : HOk X.prog X.w H' B' := fun b o q => by
    refine (hok b o q).stay (fun c v hc r => b2 c v (fun z => ?_) r) (fun _ r => r) (fun _ _ r => r)
    rcases hc with hc | hc
    · rw [← hc, z, nC'] at q
      exact nomatch q
    · rw [z, nC'] at hc
      exact nomatch hc
  have I' : Inv X pins σ H' { s9 with heap := G, gens := s'.gens, drawn := s'.drawn, toks := s'.toks } := by
    refine I.call (ch := [C]) ⟨?_, ?_, ?_, ?_, ub.tups, ub.frzs, ub.tbls⟩ (hokB.kept fun _ _ e => toG e) ag ?_
    · exact fun b o e n hb hc => toG (b2 b o (fun z => hc (List.mem_singleton.mpr z)) (ub.keep b o e n hb))
    · intro b o e n hb hc
      obtain ⟨sl, q⟩ := ub.slot b o e hb
      exact ⟨sl, (frG hb).trans q⟩
    · exact fun b o e n hc => ub.free b o e n
    · intro b o e hc
      by_cases hb : b ∈ frs X.stack
      · obtain ⟨sl, q⟩ := ub.slot b o e hb
        exact ⟨_, (frG hb).trans q⟩
      · obtain ⟨v, q⟩ := ub.there b o e hb
        exact ⟨v, toG (b2 b v (fun z => hc (List.mem_singleton.mpr z)) q)⟩
    · intro b hb
      rw [List.mem_singleton.mp hb]
      exact ⟨f1.2.2.2.1, f1.2.1, f1.2.2.2.2.1, f1.2.2.2.2.2⟩
  rw [hst] at fl
  -- the block's line is noted in the def's frame
  show wpAny (model X.prog X.w) X.A (noteFrame (.ref a) ce) _ _ s'
  rw [noteFrame_env _ hce]
  refine HandSPX.looks_onZ Zc.steady frames hfr fl fun h1 held up1 => ?_
  obtain ⟨sl1, e1⟩ := up1 C oC sC (fun vs z => by rw [hdC] at z; cases z)
  refine ⟨m, ⟨{ oC with slots := sl1 }, es, ep, by rw [hC]; exact e1, hdC, rC⟩, fun h2 m2 hn2 hs2 => ?_⟩
  rw [hC] at hs2 hn2
  obtain ⟨k1, k2, k3, oe, vs, Tb, oT, ts, he, hz, hd, hv1, hnT, hTe, hT, hdT, h3v⟩ := held
  have naC : a ≠ C := fun z => by rw [z] at he; rw [he] at e1; cases e1; (have z2 : _ = _ := hd.symm.trans hdC); cases z2
  have nTC : Tb ≠ C := fun z => by rw [z] at hT; rw [hT] at e1; cases e1; (have z2 : _ = _ := hdT.symm.trans hdC); cases z2
  have he2 : h2.get? a = some oe := (hs2.2 a naC).trans he
  have low : ∀ b, B.get? b = none → B'.get? b = none := fun b e => by
    cases q : B'.get? b with
    | none => rfl
    | some v => rw [b3 b v q] at e; cases e
  have held2 : HandSPX.HeldZ B' (X.env :: X.outer) a (Zc cls d) X.env.locals h2 := by
    refine ⟨fun b o e => ?_, low a k2, funFrames_none (Heap.FunFrames.sameBut hs2 hn2 k3) fun L hL => low L ?_, oe, vs, Tb, oT, ts, he2, hz, hd, hv1, low Tb hnT, hTe, (hs2.2 Tb nTC).trans hT, hdT, h3v⟩
    · have nb : b ≠ C := fun z => by rw [z, b1] at e; cases e
      exact (hs2.2 b nb).trans (k1 b o (b3 b o e))
    · exact (k3.mem hL).1
  unfold PySem.passOn
  refine wpAny_bind (wpAny_field (s := { s' with heap := h2 }) he2 hd hv1 ?_)
  rw [if_neg (show ¬ ((Value.ref Tb == Value.none) = true) by simp), hce, hfr]
  refine wpAny_bind (HandSPX.setFlight_onZ (s := { s' with heap := h2 }) held2 fun h3 held3 up3 => wpAny_throw ?_)
  refine tk _ _ ⟨a, B', _, pins, σ, H', cls, d, rfl, I', fun b o e hb => ?_, fun b o e nf => ?_, by rw [hst]; exact .inr (.inr held3), na, os, ag, hE⟩
  · obtain ⟨q1, q2⟩ := ofG e
    obtain ⟨v, q3⟩ := Option.isSome_iff_exists.mp (q2.resolve_right hb)
    have := inB q3
    rw [q1] at this; cases this
    exact q3
  · obtain ⟨q1, q2⟩ := ofG e
    have nb : b ≠ C := fun z => by
      rcases q2 with q2 | q2
      · rw [z, b1] at q2; cases q2
      · exact nCf (by rw [← z]; exact q2)
    obtain ⟨t1, r1⟩ := up1 b o q1 nf
    obtain ⟨t3, r3⟩ := up3 b _ ((hs2.2 b nb).trans r1) nf
    exact ⟨t3, r3⟩
theorem toRaise {Y : Cx} {pn' : List (Addr × Obj)} {σ' : St} {H : Hp} {s : Shared} (J : Inv Y pn' σ' H s) (xe : Value → Shared → Prop) : Inv (Y.tr Y.pn xe) pn' σ' H s :=
  ⟨J.ok.toTry _ _, J.os, J.bare, J.base, J.loc, J.cell, J.free, J.freeC, J.pin, J.hok, J.len⟩
theorem ofRaise {Y : Cx} {pn' : List (Addr × Obj)} {σ' : St} {H : Hp} {s : Shared} {xe : Value → Shared → Prop} (J : Inv (Y.tr Y.pn xe) pn' σ' H s) : Inv Y pn' σ' H s :=
  ⟨J.ok.ofTry, J.os, J.bare, J.base, J.loc, J.cell, J.free, J.freeC, J.pin, J.hok, J.len⟩
variable {elt tg iter : Expr} {ifs : List Expr} {scope : Scope} {own : List (Str × Nat)} {pos : Pos} {wi : TI} {g : TG} {tt : TT} {te : TE}
/-- [elt for target in iter if ..] as a value, where calls in elt may raise -/
theorem pe_lcE (hst : X.stack = X.env :: X.outer) (hfr : X.env.frame = some X.env.locals) (tk : Takes X (fun cls d _ H => E0 cls d H)) (hc : X.calm = true) (hN : X.N.Nodup) (hi : PI X tg iter wi) (ok : BlkOk X.N X.env.scope scope own)
    (hg : ∀ (s : Shared) (H : Hp) (C : Addr) (cl : List (Str × Addr)) (fp : List Addr), PG (X.blk s H scope (compEnvC scope cl C X.env) fp) tg g)
    (ht : ∀ (s : Shared) (H : Hp) (C : Addr) (cl : List (Str × Addr)) (fp : List Addr), PTs (X.blk s H scope (compEnvC scope cl C X.env) fp) ifs tt)
    (he : ∀ (s : Shared) (H : Hp) (C : Addr) (cl : List (Str × Addr)) (fp : List Addr) (xe : Value → Shared → Prop), (∀ σ, PassesAt (CX X.prog X.w) ((X.blk s H scope (compEnvC scope cl C X.env) fp).tr [] xe) σ E0) → PE ((X.blk s H scope (compEnvC scope cl C X.env) fp).tr [] xe) elt te)
    (hs0 : ∀ x, foldedSetIterable iter X.env x = pure x := by intro _; rfl) : PE X (.ListComp elt [⟨tg, iter, ifs, 0⟩] scope pos) (tLc wi g tt te (own.map (·.2))) := by
  refine ⟨fun pins s σ H Q I h => ?_⟩
  rw [eval_ListComp]
  have caught : ∀ y ∈ scope.names, y.2 = .free → ∃ c, X.env.cells.lookup y.1 = some c := fun y hy e =>
    (ok.free y hy e).elim (fun k => I.ok.has _ (.inl k)) fun k => I.ok.has _ (.inr k)
  refine comprehension_at (use := none) rfl hs0 (closure_ok caught) ok.kind (fun y hy e => by rw [ok.uniq y hy, e]) ?_
  refine thn (hi.run pins s σ H _ I h) fun xv sa hx => thn hx fun itv sb hb => ?_
  obtain ⟨it, fp, tn, J, Hb, rfl, Ib, T, stb, fb, turns⟩ := hb
  refine wpAny_newObj_type (newEnv_comp ?_) (by show 0 ≤ sizeLine; decide)
  generalize eD : sb.heap.objs.size = D
  have nD : Hb D = none := Ib.hok.fresh (Nat.le_of_eq eD)
  obtain ⟨W, ⟨n0, w0⟩, turn⟩ := turns D nD
  generalize es : ({ sb with heap := sb.heap.push { cls := .type "list", data := .seq ([] : List Value).toArray } } : Shared) = sc
  have push : ∀ b o, sb.heap.get? b = some o → sc.heap.get? b = some o := fun b o e => by rw [← es]; exact Heap.get?_push_of_some _ e
  have hsz : sc.heap.objs.size = sb.heap.objs.size + 1 := by rw [← es]; exact Heap.size_push ..
  have Ic : Inv X pins σ (upd Hb D (.lst [])) sc := by
    rw [← es]
    exact Ib.laid (t' := sb.toks) (fun b o e => Heap.get?_push_of_some _ e) (Nat.le_of_eq eD) ⟨Nat.zero_le _, [], 0, .nil, by rw [← eD]; exact Heap.get?_push_size _ rfl⟩
  have old : ∀ b ∈ fp, b < sb.heap.objs.size := fun b hb => let ⟨o, e, _⟩ := T.obj _ _ stb b hb; Heap.lt_size e
  have fc : ∀ b ∈ fp, FpOk X pins (upd Hb D (.lst [])) b ∧ b < sc.heap.objs.size := fun b hb =>
    ⟨⟨by rw [upd_ne (fun z => Nat.ne_of_lt (old b hb) (z.trans eD.symm))]; exact (fb b hb).1, (fb b hb).2⟩, Nat.lt_of_lt_of_le (old b hb) (by rw [hsz]; exact Nat.le_succ _)⟩
  have stc : tn 0 sc.heap := T.keep _ _ _ stb fun b _ o e => push b o e
  have I4 := block_start Ic ok hN fc
  have pg := hg sc (upd Hb D (.lst [])) sc.heap.objs.size (cellsFrom (sc.heap.objs.size + 1) scope.names (cloFrom X.env.cells scope.names [])) fp
  have pt := ht sc (upd Hb D (.lst [])) sc.heap.objs.size (cellsFrom (sc.heap.objs.size + 1) scope.names (cloFrom X.env.cells scope.names [])) fp
  have pe := he sc (upd Hb D (.lst [])) sc.heap.objs.size (cellsFrom (sc.heap.objs.size + 1) scope.names (cloFrom X.env.cells scope.names [])) fp
  show codeAny _ _ (.compStart (.ListComp elt [⟨tg, iter, ifs, 0⟩] scope pos) 0 (.ref it) (.ref D) (compEnvC scope (cellsFrom (sc.heap.objs.size + 1) scope.names (cloFrom X.env.cells scope.names [])) sc.heap.objs.size X.env))
    (compEnds (model X.prog X.w) X.A X.xe none (EP X pins σ Q) (.ref D) (compEnvC scope (cellsFrom (sc.heap.objs.size + 1) scope.names (cloFrom X.env.cells scope.names [])) sc.heap.objs.size X.env)) { sc with heap := pushCells (sc.heap.push { cls := .type "dict", data := .dict #[] }) scope.names }
  generalize ece : compEnvC scope (cellsFrom (sc.heap.objs.size + 1) scope.names (cloFrom X.env.cells scope.names [])) sc.heap.objs.size X.env = ce at I4 pg pt pe ⊢
  have cL : ce.locals = sc.heap.objs.size := by rw [← ece]; rfl
  have cF : ce.frame = X.env.frame := by rw [← ece]; rfl
  generalize eH : upd Hb D (HO.lst []) = Hc at Ic I4 pg pt pe w0 fc
  generalize e4 : ({ sc with heap := pushCells (sc.heap.push { cls := .type "dict", data := .dict #[] }) scope.names } : Shared) = sd at I4 ⊢
  have st4 : tn 0 sd.heap := T.keep _ _ _ stc fun b _ o e => by rw [← e4]; exact pushCells_keeps _ _ _ _ (Heap.get?_push_of_some _ e)
  have back : ∀ {pn : List (Addr × Obj)} {σ' : St} {H' : Hp} {s' : Shared}, Inv (X.blk sc Hc scope ce fp) pn σ' H' s' → Inv X pins σ H' s' := fun J =>
    Ic.call' (ch := fp) J.os J.base J.hok J.bare fun b hb => let f := (fc b hb).1; ⟨f.2.2.2.1, f.2.1, f.2.2.2.2.1, f.2.2.2.2.2⟩
  have fpo : ∀ H' : Hp, H' ce.locals = none → FpOk X pins H' ce.locals := fun H' n => by rw [cL] at n ⊢; exact Ic.fpOk (Nat.le_refl _) n
  have px : ∀ σ', PassesAt (CX X.prog X.w) ((X.blk sc Hc scope ce fp).tr [] (notedBy (model X.prog X.w) X.A ce (fun e s2 => CompFails (model X.prog X.w) X.A X.xe ce e s2))) σ' E0 := fun σ' pn H9 s9 e s' J c => by
    have J' : Inv (X.blk sc Hc scope ce fp) pn σ' H9 s9 := ofRaise J
    obtain ⟨m, hm, _⟩ := J'.loc
    exact out_of_block hst hfr tk (back J') cF rfl hm J'.free fpo c
  have pe' := pe _ px
  have quiet : ∀ {σ' : St} {H' : Hp} {s' : Shared}, Inv (X.blk sc Hc scope ce fp) [] σ' H' s' → (∀ b ∈ fp, H' b = none) → ∀ b ∈ fp, FpOk (X.blk sc Hc scope ce fp) [] H' b := fun J hn b hb =>
    ⟨hn b hb, (J.ok.exf b hb).1, J.ok.exfs b hb, .inl hb, (J.ok.exf b hb).2, fun p hp => by cases hp⟩
  have loop : codeAny (model X.prog X.w) X.A (.compLoop (.ListComp elt [⟨tg, iter, ifs, 0⟩] scope pos) 0 (.ref it) (.ref D) ce)
      (compEnds (model X.prog X.w) X.A X.xe none (EP X pins σ Q) (.ref D) ce) sd := by
    refine compLoop_any (fun n s' => ∃ (i : Nat) (H' : Hp), Inv (X.blk sc Hc scope ce fp) [] (wipe σ (own.map (·.2))) H' s' ∧ tn i s'.heap ∧ (∀ b ∈ fp, H' b = none) ∧ W i n H') ?_ n0 ⟨0, Hc, I4, st4, fun b hb => (fc b hb).1.1, w0⟩
    rintro n s5 ⟨i, H5, I5, st5, n5, w5⟩
    rcases turn i n H5 w5 with ⟨stop, qq⟩ | ⟨go, Nx, hNx, step⟩
    · refine thnF (T.done (X.blk sc Hc scope ce fp) rfl rfl rfl hc i [] s5 _ H5 (fun _ _ => False) I5 (quiet I5 n5) st5 stop) fun r s6 ⟨hr, I6⟩ => ?_
      subst hr
      obtain ⟨m, hm, _⟩ := I6.loc
      have f := fpo H5 I6.free
      exact ⟨m, hm, fun h' sb' => ⟨.ref D, H5, (back I6).turned (t' := s6.toks) (fun b o hb e => (sb'.2 b hb).trans e) f.1 f.2.1 f.2.2.2.1 f.2.2.2.2.1 f.2.2.2.2.2, rfl, qq⟩⟩
    · refine thnF (T.item (X.blk sc Hc scope ce fp) rfl rfl rfl hc i [] s5 _ H5 (fun _ _ => False) I5 (quiet I5 n5) st5 go) fun r s6 ⟨u, hr, h6⟩ => ?_
      subst hr
      refine thnF h6 fun _ s7 ⟨x, H7, I7, r7, y7, st7, n7⟩ => ?_
      have I7p := I7.pinned (quiet I7 n7) (T.obj _ _ st7)
      refine thnF (pg.run _ s7 _ H7 x u _ I7p r7 (step x H7 y7)) fun _ s8 ⟨σ8, H8, I8, hw8, q8⟩ => ?_
      refine thnF (pt.run _ s8 σ8 H8 _ I8 q8) fun b s9 ⟨H9, I9, q9⟩ => ?_
      have next : ∀ {H' : Hp} {s' : Shared}, Inv (X.blk sc Hc scope ce fp) ([] ++ pinsAt fp s7.heap) σ8 H' s' → Nx H' →
          ∃ m, m < n ∧ ∃ (i : Nat) (H' : Hp), Inv (X.blk sc Hc scope ce fp) [] (wipe σ (own.map (·.2))) H' s' ∧ tn i s'.heap ∧ (∀ b ∈ fp, H' b = none) ∧ W i m H' := fun {H' s'} J nx => by
        obtain ⟨m', lt, w'⟩ := hNx H' nx
        have there : ∀ b ∈ fp, ∀ o, s7.heap.get? b = some o → s'.heap.get? b = some o ∧ H' b = none := fun b hb o e => by
          have z := J.pin (b, o) (List.mem_append_right _ (List.mem_append_right _ (mem_pinsAt hb e)))
          exact ⟨z.1, z.2.1⟩
        refine ⟨m', lt, i + 1, H', (J.unpinned (pins := [])).weak (by rw [← hw8, wipe_length]) (fun j v e => ?_), T.keep _ _ _ st7 (fun b hb o e => (there b hb o e).1), fun b hb => ?_, w'⟩
        · rw [← hw8] at e; exact (wipe_some e).1
        · obtain ⟨o, e, _⟩ := T.obj _ _ st7 b hb; exact (there b hb o e).2
      cases b with
      | false => exact next I9 (by simpa using q9)
      | true =>
        have q9 := (by simpa using q9 : te σ8 H9 fun y H4 => ∃ acc, H4 D = some (.lst acc) ∧ acc.length < sizeLine ∧ Nx (upd H4 D (.lst (acc ++ [y]))))
        refine wpAny_mono (pe'.run _ s9 σ8 H9 _ (toRaise I9 _) q9) (fun z s10 hz => ?_) (fun _ _ e => e)
        obtain ⟨yv, H10, I10, r10, acc, hD10, hz10, nx⟩ := hz
        exact app_ok (X := X.blk sc Hc scope ce fp) (ofRaise I10) hD10 hz10 r10 (fun s11 I11 => next I11 nx)
  refine codeAny_compStart_list loop ?_
  exact T.self X.A 0 _ _ _ st4 loop
end
end PKE2
end L2
namespace PKE
open PySem L2
/-! != of data of any depth that there is room for -/
section
variable {X : Cx}
def rNeN (K : PySem.W.Frag) (n : Nat) : R2 := fun x y H Q => ∃ d e, Dp K H x d ∧ Dp K H y e ∧ d.canLay0 = true ∧ e.canLay0 = true ∧ (d.depth ≤ n ∨ e.depth ≤ n) ∧ Q (.bl (!PyData.eqv d e)) H
theorem op_neN {n : Nat} (hu : X.A.units + n < cLine) : OpR X (compareOp .NotEq) (rNeN X.K n) := by
  intro pins s σ H x y v u Q I rx ry h
  obtain ⟨d, e, hd, he, sd, se, hn, q⟩ := h
  obtain ⟨as, r1⟩ := Dp.reads I d x v hd rx
  obtain ⟨bs, r2⟩ := Dp.reads I e y u he ry
  refine SeqAt.compareNe_reads r1 r2 sd se ?_ ⟨.bl _, H, I, rfl, q⟩
  rcases hn with h | h
  · exact Nat.lt_of_le_of_lt (Nat.add_le_add_left (Nat.le_trans (Nat.min_le_left _ _) h) _) hu
  · exact Nat.lt_of_le_of_lt (Nat.add_le_add_left (Nat.le_trans (Nat.min_le_right _ _) h) _) hu
end
end PKE
namespace PK
open PySem L2
def topS (i : Nat) : Stmt := PySem.Challenge.pw_passproven_k52_translated_states.main.body.getD i (.Pass ⟨0, 0, 0, 0⟩)
/-- xs[j] of a name -/
theorem vIx {K : PySem.W.Frag} {σ : L2.St} {H : Hp} {Q : VK} {i : Nat} {p : Addr} {xs : List V} {j : Int} {v : V} (h : σ[i]? = some (some (.ref p))) (hl : H p = some (.lst xs)) (ha : atI xs j = some v) (q : Q v H) :
    tOp (rIxL K) (tVar i) (tC (.int j)) σ H Q := ⟨_, h, p, xs, j, v, rfl, rfl, SqL.of hl, ha, q⟩
structure Txt (K : PySem.W.Frag) (mg : Str → Option Value) : Prop where
  z_len : mg "len" = none
  z_int : mg "int" = none
  z_range : mg "range" = none
  z_min : mg "min" = none
  z_str : mg "str" = none
  z_tuple : mg "tuple" = none
  z_sorted : mg "sorted" = none
  z_isinstance : mg "isinstance" = none
  z_any : mg "any" = none
  z_all : mg "all" = none
  z_list : mg "list" = none
  z_bool : mg "bool" = none
/-- all but what stands at l is as it was -/
def Keep (l : Addr) (H H' : Hp) : Prop := ∀ b o, b ≠ l → H b = some o → H' b = some o
def PoolR (H : Hp) (l c : Addr) (pos : Prop) : Prop := ∃ (ns : List Int) (i r s : Int), H l = some (.lst [.ref c, .int i, .int r, .int s]) ∧ H c = some (.lst (ns.map V.int)) ∧ c ≠ l ∧ (∀ n ∈ ns, 0 ≤ n) ∧ 0 ≤ i ∧ 0 ≤ r ∧ 0 ≤ s ∧ s < 2147483647 ∧ (pos → 0 < r)
abbrev Pool (H : Hp) (l c : Addr) : Prop := PoolR H l c False
/-- from H to H' the pool at l was drawn from, all else is kept -/
structure Ext (l c : Addr) (H H' : Hp) : Prop where
  keep : Keep l H H'
  pool : Pool H' l c
theorem Pool.ne {H : Hp} {l c p : Addr} (P : Pool H l c) (h : H p = none) : p ≠ l ∧ p ≠ c := by
  obtain ⟨ns, i, r, s, hl, hc, _⟩ := P
  exact ⟨(ne_of_none hl h).symm, (ne_of_none hc h).symm⟩
theorem Pool.upd {H : Hp} {l c p : Addr} {o : HO} (P : Pool H l c) (h1 : p ≠ l) (h2 : p ≠ c) : Pool (upd H p o) l c := by
  obtain ⟨ns, i, r, s, hl, hc, z⟩ := P
  exact ⟨ns, i, r, s, by rw [upd_ne h1.symm]; exact hl, by rw [upd_ne h2.symm]; exact hc, z⟩
theorem Ext.refl {l c : Addr} {H : Hp} (P : Pool H l c) : Ext l c H H := ⟨fun _ _ _ h => h, P⟩
theorem Ext.trans {l c : Addr} {H H1 H2 : Hp} (x : Ext l c H H1) (y : Ext l c H1 H2) : Ext l c H H2 := ⟨fun b o hb h => y.keep b o hb (x.keep b o hb h), y.pool⟩
/-- what was free ahead of the draws was free -/
theorem Ext.free {l c p : Addr} {H H' : Hp} (x : Ext l c H H') (P : Pool H l c) (h : H' p = none) : H p = none := by
  cases e : H p with
  | none => rfl
  | some o =>
    by_cases hb : p = l
    · subst hb
      obtain ⟨ns, i, r, s, hl, _⟩ := x.pool
      rw [hl] at h; cases h
    · rw [x.keep p o hb e] at h; cases h
theorem Ext.upd {l c p : Addr} {H H' : Hp} {o : HO} (x : Ext l c H H') (P : Pool H l c) (h : H p = none) : Ext l c H (L2.upd H' p o) :=
  ⟨fun b u hb hu => by rw [upd_ne (ne_of_none hu h)]; exact x.keep b u hb hu, x.pool.upd (P.ne h).1 (P.ne h).2⟩
theorem Ext.new {l c p : Addr} {H H' : Hp} {o : HO} (x : Ext l c H H') (P : Pool H l c) (h : H' p = none) : Ext l c H (L2.upd H' p o) := x.upd P (x.free P h)
theorem Ext.seqT {l c a : Addr} {K : PySem.W.Frag} {H H' : Hp} {xs : List V} (x : Ext l c H H') (P : Pool H l c) (h : SqT K H a xs) : SqT K H' a xs := by
  have nl : ∀ {o : HO}, H a = some o → (∀ ys, o ≠ .lst ys) → a ≠ l := fun e d z => by
    subst z
    obtain ⟨ns, i, r, s, hl, _⟩ := P
    rw [hl] at e; cases e
    exact d _ rfl
  rcases h with (h | ⟨o, h⟩) | h
  · exact .inl (.inl (x.keep _ _ (nl h (fun _ => HO.noConfusion)) h))
  · exact .inl (.inr ⟨o, x.keep _ _ (nl h (fun _ => HO.noConfusion)) h⟩)
  · exact .inr h
def spTake (n : Nat) : Sp := fun vs H Q _ => ∃ (l c : Addr) (m : Int) (p : Prop), vs = [.ref l, .int m] ∧ PoolR H l c p ∧ 0 < m ∧ m < 18446744073709551616 ∧ (2 ≤ n ∨ (1 ≤ n ∧ p)) ∧
  ∀ (d : Int) (H' : Hp), 0 ≤ d → d < m → Ext l c H H' → Q (.int d) H'
theorem vTake {σ : L2.St} {H : Hp} {Q : VK} {i : Nat} {m : Int} {l c : Addr} (h : σ[i]? = some (some (.ref l))) (P : Pool H l c) (h0 : 0 < m) (hm : m < 18446744073709551616)
    (q : ∀ (d : Int) (H' : Hp), 0 ≤ d → d < m → Ext l c H H' → Q (.int d) H') : tCall (spTake 2) [] E0 (tCons (tVar i) (tCons (tC (.int m)) tNil)) σ H Q :=
  ⟨_, h, l, c, m, False, rfl, P, h0, hm, .inl (Nat.le_refl 2), q⟩
section
variable {P : Program} {w : World} {K : PySem.W.Frag} {mg : Str → Option Value} {base : Heap}
abbrev s_law_take : Stmt := topS 18
theorem sc_law_take : FnScope ["pool", "many", "digit", "cell", "mixed"] ["pool", "many"] (defScope s_law_take) := ⟨rfl, rfl, rfl, by decide +kernel, rfl, by decide +kernel, by decide +kernel⟩
-- slots: 0:pool 1:many 2:digit 3:cell 4:mixed
theorem ok_take {n : Nat} {f : Addr} {fd : FuncData} (F : Fun K "_law_take" "_law_take" s_law_take f fd) (T : Txt K mg) (C_law_take : C8.Cal P w K mg base n "_law_take" (spTake n) []) :
    FnOk P w K mg base CX0 (n + 1) f fd ["pool", "many"] (spTake (n + 1)) := by
  refine F.ok sc_law_take (fun vs H Q E h => ?_) (fun cdv A outer s H vs Q E hr h => ?_)
  · obtain ⟨l, c, m, p, rfl, _⟩ := h
    rfl
  obtain ⟨l, c, m, p, rfl, ⟨ns, i, r, st, hl, hc, hcl, hns, hi, h0r, hs, hs2, hp⟩, hm, hm2, hn, q⟩ := h
  have hk : n ≤ n := Nat.le_refl n
  refine ⟨_, (pss_cons (ps_if (pt_cmpR op_gt (pe_ix ix_list (pv 0) pe_int (fun _ _ => rfl)) pe_int (nomark _)) (pss_cons (ps_set (i := 2) sc_law_take.nd rfl (Or.inl rfl) (pe_op op_mod (pe_callTy call_int1 (by rfl) T.z_int (by decide +kernel) (pa_cons (pe_ix ix_list (pv 0) pe_int (fun _ _ => rfl)) pa_nil)) (pv 1)))
    (pss_cons (ps_asg (pe_op op_fdivW (pe_ix ix_list (pv 0) pe_int (fun _ _ => rfl)) (pv 1)) (pg_sub (pv 0) pe_int set_list))
    (pss_one (ps_ret (pv 2))))) pss_nil)
    (pss_cons (ps_set (i := 3) sc_law_take.nd rfl (Or.inl rfl) pe_int)
    (C8.pss_cut (ps_if (pt_cmpR op_lt (pe_ix ix_list (pv 0) pe_int (fun _ _ => rfl)) (pe_callB call_len_seq (by rfl) T.z_len (by decide +kernel) (pa_cons (pe_ix ix_list (pv 0) pe_int (fun _ _ => rfl)) pa_nil)) (nomark _)) (pss_one (ps_set (i := 3) sc_law_take.nd rfl (Or.inl rfl) (pe_ix ix_list (pe_ix ix_list (pv 0) pe_int (fun _ _ => rfl)) (pe_ix ix_list (pv 0) pe_int (fun _ _ => rfl)) (fun _ _ => rfl)))) pss_nil)
    (pss_cons (ps_asg (pe_op op_add (pe_ix ix_list (pv 0) pe_int (fun _ _ => rfl)) pe_int) (pg_sub (pv 0) pe_int set_list))
    (pss_cons (ps_if (pt_cmpR op_ge (pv 3) (pe_op op_pow pe_int pe_int) (nomark _)) (pss_cons (ps_asg (pe_op op_fdivW (pv 3) pe_int) (pg_sub (pv 0) pe_int set_list))
    (pss_one (ps_ret (C8.pe_c C_law_take hr hk rfl (pa_cons (pv 0) (pa_cons (pv 1) pa_nil)))))) pss_nil)
    (pss_cons (ps_asg (pe_op op_mod (pe_callTy call_int1 (by rfl) T.z_int (by decide +kernel) (pa_cons (pe_op op_add (pe_op op_add (pe_op op_mul (pe_ix ix_list (pv 0) pe_int (fun _ _ => rfl)) pe_int) (pe_op op_mul (pv 3) pe_int)) (pe_op op_mul (pe_ix ix_list (pv 0) pe_int (fun _ _ => rfl)) pe_int)) pa_nil)) pe_int) (pg_sub (pv 0) pe_int set_list))
    (pss_cons (ps_set (i := 4) sc_law_take.nd rfl (Or.inl rfl) (pe_op op_mod (pe_callTy call_int1 (by rfl) T.z_int (by decide +kernel) (pa_cons (pe_op op_add (pe_op op_add (pe_op op_mul (pe_ix ix_list (pv 0) pe_int (fun _ _ => rfl)) (pe_ix ix_list (pv 0) pe_int (fun _ _ => rfl))) (pe_op op_mul (pe_ix ix_list (pv 0) pe_int (fun _ _ => rfl)) pe_int)) pe_int) pa_nil)) pe_int))
    (pss_one (ps_ret (pe_op op_mod (pe_callTy call_int1 (by rfl) T.z_int (by decide +kernel) (pa_cons (pe_op op_fdivW (pv 4) pe_int) pa_nil)) (pv 1))))))))))), ?_⟩
  have lgm : m.natAbs.log2 < 9000 := (wide_div (i := 0) (b := 64) hm (by rw [show (2 : Nat) ^ 64 = 18446744073709551616 from rfl]; omega) (by decide) (by decide)).2
  have lg2 : (2 : Int).natAbs.log2 < 9000 := by decide
  have ext : ∀ i' r' s' : Int, 0 ≤ i' → 0 ≤ r' → 0 ≤ s' → s' < 2147483647 → ∀ pp : Prop, (pp → 0 < r') → Keep l H (upd H l (.lst [.ref c, .int i', .int r', .int s'])) ∧ PoolR (upd H l (.lst [.ref c, .int i', .int r', .int s'])) l c pp := fun i' r' s' h1 h2 h3 h4 pp hpp =>
    ⟨fun b o hb hbo => by rw [upd_ne hb]; exact hbo, ns, i', r', s', upd_same, by rw [upd_ne hcl]; exact hc, hcl, hns, h1, h2, h3, h4, hpp⟩
  -- pool[2] > 0
  refine vIx rfl hl rfl ⟨_, _, rfl, rfl, _, rfl, ?_⟩
  refine ite2 (fun e => ?_) (fun e => ?_)
  · have e' : 0 < r := of_decide_eq_true e
    refine ⟨_, rfl, l, _, _, _, rfl, rfl, SqL.of hl, rfl, .inl ⟨_, rfl, _, rfl, _, _, rfl, rfl, hm, ?_⟩⟩
    refine vIx rfl hl rfl ⟨_, rfl, _, _, rfl, rfl, ⟨hm, lgm⟩, ?_⟩
    refine ⟨_, rfl, l, _, 2, 2, rfl, rfl, hl, rfl, _, rfl, ?_⟩
    have z := ext i (r / m) st hi (Int.ediv_nonneg h0r (by omega)) hs hs2 False False.elim
    exact q _ _ (Int.emod_nonneg _ (by omega)) (Int.emod_lt_of_pos _ hm) ⟨z.1, z.2⟩
  · have e0 : r = 0 := by have := of_decide_eq_false (Bool.eq_false_iff.mpr e); omega
    subst e0
    have n2 : 1 ≤ n := by
      rcases hn with hn | ⟨_, hn⟩
      · omega
      · exact absurd (hp hn) (by omega)
    refine ⟨fun σ' H' => ∃ z : Int, 0 ≤ z ∧ σ' = [some (.ref l), some (.int m), none, some (.int z), none] ∧ H' = H, ?_, ?_⟩
    · refine vIx rfl hl rfl (vIx rfl hl rfl ⟨c, _, rfl, .inl (SqL.of hc), _, _, rfl, rfl, _, rfl, ?_⟩)
      refine ite2 (fun e1 => ?_) (fun e1 => ⟨0, by omega, rfl, rfl⟩)
      have e1' : i < ((ns.map V.int).length : Nat) := of_decide_eq_true e1
      rw [List.length_map] at e1'
      obtain ⟨j, rfl⟩ : ∃ j : Nat, i = j := ⟨i.toNat, by omega⟩
      have hj : j < ns.length := by omega
      have g : (ns.map V.int)[j]? = some (.int ns[j]) := by rw [List.getElem?_map, List.getElem?_eq_getElem hj]; rfl
      refine vIx rfl hl rfl (vIx rfl hl rfl ⟨c, _, _, _, rfl, rfl, SqL.of hc, atI_nat g, ?_⟩)
      exact ⟨_, hns _ (List.getElem_mem hj), rfl, rfl⟩
    · rintro σ' H' ⟨z, hz, rfl, rfl⟩
      refine vIx rfl hl rfl ⟨_, _, rfl, rfl, _, rfl, l, _, 1, 1, rfl, rfl, hl, rfl, ?_⟩
      refine ⟨_, rfl, _, _, rfl, rfl, ⟨by decide, by decide, by decide⟩, _, _, rfl, rfl, _, rfl, ?_⟩
      refine ite2 (fun e1 => ?_) (fun e1 => ?_)
      · have e1' : (10 : Int) ^ 18 ≤ z := of_decide_eq_true e1
        refine ⟨_, rfl, _, _, rfl, rfl, ⟨by decide, lg2⟩, _, rfl, l, _, 2, 2, rfl, rfl, upd_same, rfl, ?_⟩
        refine ⟨_, rfl, _, rfl, ?_⟩
        have zz := ext (i + 1) (z / 2) st (by omega) (Int.ediv_nonneg hz (by omega)) hs hs2 True (fun _ => by omega)
        refine ⟨l, c, m, True, rfl, ?_, hm, hm2, .inr ⟨n2, trivial⟩, fun d H' h1 h2 x => q d H' h1 h2 ⟨?_, x.pool⟩⟩
        · show PoolR (upd (upd H' l _) l _) l c True
          rw [upd_upd]
          exact zz.2
        · intro b o hb hbo
          refine x.keep b o hb ?_
          show upd (upd _ l _) l _ b = _
          rw [upd_upd, upd_ne hb]
          exact hbo
      · have c1 : CMul st 48271 := .inr ⟨by decide, by decide⟩
        have c2 : CMul z 69621 := .inr ⟨by decide, by decide⟩
        have c3 : CMul (i + 1) 613 := .inr ⟨by decide, by decide⟩
        refine vIx rfl upd_same rfl ⟨_, _, rfl, rfl, c1, _, rfl, _, _, rfl, rfl, c2, _, _, rfl, rfl, vIx rfl upd_same rfl ⟨_, _, rfl, rfl, c3, _, _, rfl, rfl, .inl ⟨_, rfl, _, _, rfl, rfl, (show (0 : Int) < 2147483647 by decide), ?_⟩⟩⟩
        refine ⟨_, rfl, l, _, 3, 3, rfl, rfl, upd_same, rfl, ?_⟩
        have b1 : 0 ≤ (st * 48271 + z * 69621 + (i + 1) * 613) % 2147483647 := Int.emod_nonneg _ (by decide)
        have b2 : (st * 48271 + z * 69621 + (i + 1) * 613) % 2147483647 < 2147483647 := Int.emod_lt_of_pos _ (by decide)
        have c4 : CMul ((st * 48271 + z * 69621 + (i + 1) * 613) % 2147483647) ((st * 48271 + z * 69621 + (i + 1) * 613) % 2147483647) := .inr ⟨by omega, by omega⟩
        have c5 : CMul ((st * 48271 + z * 69621 + (i + 1) * 613) % 2147483647) 7919 := .inr ⟨by decide, by decide⟩
        refine vIx rfl upd_same rfl (vIx rfl upd_same rfl ⟨_, _, rfl, rfl, c4, vIx rfl upd_same rfl ⟨_, _, rfl, rfl, c5, _, _, rfl, rfl, _, _, rfl, rfl, .inl ⟨_, rfl, _, _, rfl, rfl, (show (0 : Int) < 1000000007 by decide), ?_⟩⟩⟩)
        have c6 : CDivW ((((st * 48271 + z * 69621 + (i + 1) * 613) % 2147483647) * ((st * 48271 + z * 69621 + (i + 1) * 613) % 2147483647) + ((st * 48271 + z * 69621 + (i + 1) * 613) % 2147483647) * 7919 + 104729) % 1000000007) 3 := ⟨by decide, by decide⟩
        refine ⟨_, rfl, _, _, rfl, rfl, c6, .inl ⟨_, rfl, _, rfl, _, _, rfl, rfl, hm, ?_⟩⟩
        have zz := ext (i + 1) 0 ((st * 48271 + z * 69621 + (i + 1) * 613) % 2147483647) (by omega) (by omega) b1 b2 False False.elim
        refine q _ _ (Int.emod_nonneg _ (by omega)) (Int.emod_lt_of_pos _ hm) ⟨?_, ?_⟩
        · show Keep l _ (upd (upd _ l _) l _)
          rw [upd_upd]
          exact zz.1
        · show Pool (upd (upd _ l _) l _) l c
          rw [upd_upd]
          exact zz.2
end
end PK
namespace PK
open PySem L2
/-! ### words -/
abbrev LET : Str := "abcdefghijklmnopqrstuvwxyz"
abbrev OTH : Str := "abcdefghijklmnopqrstuvwxyz0123456789_"
abbrev BARRED : List Str := ["get", "set", "plus", "minus", "new", "read", "write", "put"]
theorem let_len : LET.cps.toList.length = 26 := by decide +kernel
theorem oth_len : OTH.cps.toList.length = 37 := by decide +kernel
theorem line_big : (16777216 : Nat) ≤ sizeLine := by rw [sizeLine_eq]; decide
theorem small {n : Nat} (h : n ≤ 16777216) : n ≤ sizeLine := Nat.le_trans h line_big
theorem smallL {n : Nat} (h : n < 16777216) : n < sizeLine := Nat.lt_of_lt_of_le h line_big
theorem len_list (z : Str) : z.length = z.cps.toList.length := by unfold Str.length; simp
theorem yes_ {A B : Hp → Prop} {σ : L2.St} {H : Hp} (h : A H) : tYes σ H fun b H3 => if b = true then A H3 else B H3 := by
  show if true = true then A H else B H
  exact iteT h
/-- a drawn sign of a text -/
theorem strAt (z : Str) {n : Nat} (hz : z.cps.toList.length = n) (hn : n ≤ 1000) {d : Int} {H : Hp} {Q : VK} (h0 : 0 ≤ d) (h1 : d < (n : Int)) (q : ∀ s : Nat, s ∈ z.cps.toList → Q (.str ⟨#[s]⟩) H) : rIxS (.str z) (.int d) H Q := by
  obtain ⟨j, rfl⟩ : ∃ j : Nat, d = j := ⟨d.toNat, by omega⟩
  have hj : j < z.cps.toList.length := by omega
  exact ⟨z, _, _, rfl, rfl, by rw [len_list, hz]; exact small (by omega), atI_nat (List.getElem?_eq_getElem hj), q _ (List.getElem_mem hj)⟩
/-- the j-th word that is tried for the k-th place -/
def cand (j k : Nat) : Str := ("w" : Str) ++ (toString (j : Int) : Str) ++ ("_" : Str) ++ (toString (k : Int) : Str)
def pre (j : Nat) : Str := ("w" : Str) ++ (toString (j : Int) : Str) ++ ("_" : Str)
theorem pre_len : ∀ j, j < 27 → (pre j).length ≤ 4 := by decide +kernel
theorem str_len : ∀ j : Nat, j < 27 → ((toString (j : Int) : String) : Str).length ≤ 2 := by decide +kernel
theorem pre_inj : ∀ i, i < 27 → ∀ j, j < 27 → pre i = pre j → i = j := by decide +kernel
theorem app_cancel {a b t : Str} (h : a ++ t = b ++ t) : a = b := by
  have e : a.cps ++ t.cps = b.cps ++ t.cps := congrArg Str.cps h
  have e2 : a.cps.toList ++ t.cps.toList = b.cps.toList ++ t.cps.toList := by
    have := congrArg Array.toList e
    simpa using this
  exact Str.ext' (Array.toList_inj.mp (List.append_cancel_right e2))
theorem cand_inj {i j k : Nat} (hi : i < 27) (hj : j < 27) (h : cand i k = cand j k) : i = j := pre_inj i hi j hj (app_cancel h)
theorem cand_len {j k : Nat} (hj : j < 27) (hk : k < 27) : (cand j k).length ≤ 6 := by
  have h1 := pre_len j hj
  have h2 := str_len k hk
  show (pre j ++ _).length ≤ 6
  rw [Str.length_append]
  omega
theorem cand_bar (j k : Nat) : cand j k ∉ BARRED := by
  have h1 : 95 ∈ (cand j k).cps.toList := by
    show 95 ∈ ((((("w" : Str).cps ++ ((toString (j : Int) : String) : Str).cps) ++ ("_" : Str).cps) ++ ((toString (k : Int) : String) : Str).cps)).toList
    have e : ("_" : Str).cps.toList = [95] := by decide +kernel
    simp only [Array.toList_append, e, List.mem_append, List.mem_singleton]
    exact .inl (.inr trivial)
  have h2 : ∀ b ∈ BARRED, 95 ∉ b.cps.toList := by decide +kernel
  exact fun m => h2 _ m h1
theorem inj_le : ∀ (l m : List Str), l.Nodup → (∀ x ∈ l, x ∈ m) → l.length ≤ m.length
  | [], _, _, _ => Nat.zero_le _
  | x :: r, m, hn, hm => by
    obtain ⟨h1, h2⟩ := List.nodup_cons.mp hn
    have hx := hm x List.mem_cons_self
    have ih := inj_le r (m.erase x) h2 fun y hy => (List.mem_erase_of_ne (fun e => h1 (by rw [← e]; exact hy))).mpr (hm y (List.mem_cons_of_mem _ hy))
    rw [List.length_erase_of_mem hx] at ih
    have : 0 < m.length := List.length_pos_of_mem hx
    rw [List.length_cons]
    omega
/-- not all of m tried words stand in a list of fewer than m -/
theorem pigeon {m k : Nat} {ws : List Str} (hm : m < 27) (hl : ws.length < m) (h : ∀ t, t < m → cand t k ∈ ws) : False := by
  have n : ((List.range m).map fun t => cand t k).Nodup := by
    rw [List.Nodup, List.pairwise_map]
    refine List.Pairwise.imp_of_mem ?_ List.nodup_range
    intro a b ha hb hab e
    exact hab (cand_inj (Nat.lt_trans (List.mem_range.mp ha) hm) (Nat.lt_trans (List.mem_range.mp hb) hm) e)
  have := inj_le _ ws n fun x hx => by
    obtain ⟨t, ht, rfl⟩ := List.mem_map.mp hx
    exact h t (List.mem_range.mp ht)
  rw [List.length_map, List.length_range] at this
  omega
theorem inV_str (u : Str) : ∀ ws : List Str, inV (.str u) (ws.map V.str) = decide (u ∈ ws)
  | [] => by simp [inV]
  | x :: r => by
    have ih := inV_str u r
    unfold inV at ih ⊢
    rw [List.map_cons, List.any_cons, ih]
    show ((x == u) || decide (u ∈ r)) = _
    by_cases e : x = u
    · subst e; simp
    · have e2 : (x == u) = false := by simpa using e
      rw [e2, Bool.false_or]
      by_cases h : u ∈ r
      · simp [h]
      · simp [h, Ne.symm e]
theorem flat_strs (ws : List Str) : (ws.map V.str).all flatV = true := by
  rw [List.all_eq_true]
  intro x hx
  obtain ⟨s, _, rfl⟩ := List.mem_map.mp hx
  rfl
/-- signs of words -/
def one (s : Nat) : Str := ⟨#[s]⟩
def Ones (ss : List Nat) : Prop := ∀ s ∈ ss, s ∈ OTH.cps.toList
theorem join_one : ∀ ss : List Nat, (Str.join "" (ss.map one)).cps.toList = ss
  | [] => rfl
  | [s] => rfl
  | s :: t :: r => by
    have ih := join_one (t :: r)
    have e : ("" : Str).cps.toList = [] := by decide +kernel
    show ((one s).cps ++ ("" : Str).cps ++ (Str.join "" ((t :: r).map one)).cps).toList = _
    rw [Array.toList_append, Array.toList_append, ih, e]
    rfl
theorem txt_join (ss : List Nat) : (Txt.join "" (ss.map one)).cps.toList = ss := by
  show (Builtin.Str.glued ("" : Str) (ss.map one)).cps.toList = ss
  rw [StrLaws.glued_eq_join]
  exact join_one ss
theorem one_sum (ss : List Nat) : ((ss.map one).map (·.length)).sum = ss.length := by
  induction ss with
  | nil => rfl
  | cons s r ih =>
    rw [List.map_cons, List.map_cons, List.sum_cons, ih, List.length_cons]
    show 1 + r.length = _
    omega
/-- a word: signs that words have, the first one a letter -/
structure Wd (x : Str) : Prop where
  lo : 1 ≤ x.length
  hi : x.length ≤ 12
  hd : ∃ s r, x.cps.toList = s :: r ∧ s ∈ LET.cps.toList
  al : ∀ s ∈ x.cps.toList, s ∈ OTH.cps.toList
theorem Wd.of {x : Str} {s : Nat} {r : List Nat} (e : x.cps.toList = s :: r) (hs : s ∈ LET.cps.toList) (ho : Ones r) (hl : r.length ≤ 11) : Wd x where
  lo := by rw [len_list, e, List.length_cons]; omega
  hi := by rw [len_list, e, List.length_cons]; omega
  hd := ⟨s, r, e, hs⟩
  al := fun z hz => by
    rw [e] at hz
    rcases List.mem_cons.mp hz with h | h
    · rw [h]
      have : ∀ s ∈ LET.cps.toList, s ∈ OTH.cps.toList := by decide +kernel
      exact this s hs
    · exact ho z h
theorem pre_wd : ∀ j, j < 27 → ∀ s ∈ (pre j).cps.toList, s ∈ OTH.cps.toList := by decide +kernel
theorem num_wd : ∀ j : Nat, j < 27 → ∀ s ∈ ((toString (j : Int) : String) : Str).cps.toList, s ∈ OTH.cps.toList := by decide +kernel
theorem pre_hd : ∀ j, j < 27 → (pre j).cps.toList[0]? = some 119 := by decide +kernel
theorem cand_wd {j k : Nat} (hj : j < 27) (hk : k < 27) : Wd (cand j k) := by
  have e : (cand j k).cps.toList = (pre j).cps.toList ++ ((toString (k : Int) : String) : Str).cps.toList := by
    show ((pre j).cps ++ ((toString (k : Int) : String) : Str).cps).toList = _
    rw [Array.toList_append]
  have h0 := pre_hd j hj
  cases e1 : (pre j).cps.toList with
  | nil => rw [e1] at h0; cases h0
  | cons s r =>
    rw [e1] at h0 e
    have hs : s = 119 := Option.some.inj h0
    refine Wd.of (s := s) (r := r ++ ((toString (k : Int) : String) : Str).cps.toList) e (by rw [hs]; decide +kernel) (fun z hz => ?_) ?_
    · rcases List.mem_append.mp hz with h | h
      · exact pre_wd j hj z (by rw [e1]; exact List.mem_cons_of_mem _ h)
      · exact num_wd k hk z h
    · have h1 := pre_len j hj
      have h2 := str_len k hk
      rw [len_list] at h1 h2
      rw [e1, List.length_cons] at h1
      rw [List.length_append]
      omega
theorem let_oth : ∀ s ∈ LET.cps.toList, s ∈ OTH.cps.toList := by decide +kernel
theorem ixN_of {n : Nat} {k : Int} (h0 : 0 ≤ k) (h1 : k < (n : Int)) : ixN n k = some k.toNat := by
  unfold ixN
  rw [if_pos h0, if_pos h1]
theorem Ones.set {row : List Nat} (h : Ones row) {s : Nat} (hs : s ∈ OTH.cps.toList) (j : Nat) : Ones (row.set j s) := fun x hx => by
  rcases List.mem_or_eq_of_mem_set hx with h1 | h1
  · exact h x h1
  · rw [h1]; exact hs
/-- the signs of a word, one of them another letter -/
theorem set_hd {s0 : Nat} {r : List Nat} (h0 : s0 ∈ LET.cps.toList) (hr : Ones r) {s : Nat} (hs : s ∈ LET.cps.toList) (j : Nat) : ∃ s1 r1, (s0 :: r).set j s = s1 :: r1 ∧ s1 ∈ LET.cps.toList ∧ Ones r1 ∧ r1.length = r.length := by
  cases j with
  | zero => exact ⟨s, r, rfl, hs, hr, rfl⟩
  | succ j => exact ⟨s0, r.set j s, rfl, h0, hr.set (let_oth _ hs) j, List.length_set ..⟩
end PK
namespace PK
open PySem L2
/-! ### data of tuples -/
mutual
inductive Dt (K : PySem.W.Frag) (H : Hp) : V → PyData → Prop
  | non : Dt K H .non .none
  | bl (b : Bool) : Dt K H (.bl b) (.bool b)
  | int (i : Int) : Dt K H (.int i) (.int i)
  | str (x : Str) : Dt K H (.str x) (.str x)
  | tup {a : Addr} {xs : List V} {ds : List PyData} : SqT K H a xs → DtAll K H xs ds → Dt K H (.ref a) (.tuple ds)
inductive DtAll (K : PySem.W.Frag) (H : Hp) : List V → List PyData → Prop
  | nil : DtAll K H [] []
  | cons {v : V} {vs : List V} {d : PyData} {ds : List PyData} : Dt K H v d → DtAll K H vs ds → DtAll K H (v :: vs) (d :: ds)
end
section
variable {K : PySem.W.Frag} {H H' : Hp}
mutual
theorem Dt.dp : ∀ (d : PyData) (v : V), Dt K H v d → Dp K H v d
  | .none, _, h => by cases h; exact .non
  | .bool _, _, h => by cases h; exact .bl _
  | .int _, _, h => by cases h; exact .int _
  | .str _, _, h => by cases h; exact .str _
  | .list _, _, h => by cases h
  | .dict _, _, h => by cases h
  | .tuple ds, _, h => by
    cases h with
    | tup s a => exact .tup s (DtAll.dp ds _ a)
theorem DtAll.dp : ∀ (ds : List PyData) (vs : List V), DtAll K H vs ds → DpAll K H vs ds
  | [], _, h => by cases h; exact .nil
  | d :: ds, _, h => by
    cases h with
    | cons h1 h2 => exact .cons (Dt.dp d _ h1) (DtAll.dp ds _ h2)
end
mutual
theorem Dt.mono (hT : ∀ a xs, SqT K H a xs → SqT K H' a xs) : ∀ (d : PyData) (v : V), Dt K H v d → Dt K H' v d
  | .none, _, h => by cases h; exact .non
  | .bool _, _, h => by cases h; exact .bl _
  | .int _, _, h => by cases h; exact .int _
  | .str _, _, h => by cases h; exact .str _
  | .list _, _, h => by cases h
  | .dict _, _, h => by cases h
  | .tuple ds, _, h => by
    cases h with
    | tup s a => exact .tup (hT _ _ s) (DtAll.mono hT ds _ a)
theorem DtAll.mono (hT : ∀ a xs, SqT K H a xs → SqT K H' a xs) : ∀ (ds : List PyData) (vs : List V), DtAll K H vs ds → DtAll K H' vs ds
  | [], _, h => by cases h; exact .nil
  | d :: ds, _, h => by
    cases h with
    | cons h1 h2 => exact .cons (Dt.mono hT d _ h1) (DtAll.mono hT ds _ h2)
end
theorem Same.seqT {a : Addr} {xs : List V} (e : Same H H') (h : SqT K H a xs) : SqT K H' a xs := by
  rcases h with (h | ⟨o, h⟩) | h
  · exact .inl (.inl (e _ _ h))
  · exact .inl (.inr ⟨o, e _ _ h⟩)
  · exact .inr h
theorem Dt.same {d : PyData} {v : V} (h : Dt K H v d) (e : Same H H') : Dt K H' v d := Dt.mono (fun _ _ q => Same.seqT e q) d v h
theorem Dt.ext {l c : Addr} {d : PyData} {v : V} (h : Dt K H v d) (P : Pool H l c) (x : Ext l c H H') : Dt K H' v d := Dt.mono (fun _ _ q => x.seqT P q) d v h
theorem same_new {p : Addr} {o : HO} (h : H p = none) : Same H (upd H p o) := fun b u e => by
  rw [upd_ne (ne_of_none e h)]
  exact e
theorem Dt.new {d : PyData} {v : V} {p : Addr} {o : HO} (h : Dt K H v d) (hp : H p = none) : Dt K (upd H p o) v d := h.same (same_new hp)
theorem Dt.s {v : V} {x : Str} (h : Dt K H v (.str x)) : v = .str x := by cases h; rfl
theorem Dt.i {v : V} {x : Int} (h : Dt K H v (.int x)) : v = .int x := by cases h; rfl
theorem Dt.t1 {v : V} {d : PyData} (h : Dt K H v (.tuple [d])) : ∃ a x, v = .ref a ∧ SqT K H a [x] ∧ Dt K H x d := by
  cases h with
  | tup s a => cases a with
    | cons h1 r => cases r; exact ⟨_, _, rfl, s, h1⟩
theorem Dt.t2 {v : V} {d e : PyData} (h : Dt K H v (.tuple [d, e])) : ∃ a x y, v = .ref a ∧ SqT K H a [x, y] ∧ Dt K H x d ∧ Dt K H y e := by
  cases h with
  | tup s a => cases a with
    | cons h1 r => cases r with
      | cons h2 r => cases r; exact ⟨_, _, _, rfl, s, h1, h2⟩
theorem Dt.t3 {v : V} {d e f : PyData} (h : Dt K H v (.tuple [d, e, f])) : ∃ a x y z, v = .ref a ∧ SqT K H a [x, y, z] ∧ Dt K H x d ∧ Dt K H y e ∧ Dt K H z f := by
  cases h with
  | tup s a => cases a with
    | cons h1 r => cases r with
      | cons h2 r => cases r with
        | cons h3 r => cases r; exact ⟨_, _, _, _, rfl, s, h1, h2, h3⟩
theorem Dt.tn {v : V} {ds : List PyData} (h : Dt K H v (.tuple ds)) : ∃ a xs, v = .ref a ∧ SqT K H a xs ∧ DtAll K H xs ds := by
  cases h with
  | tup s a => exact ⟨_, _, rfl, s, a⟩
theorem Dt.mk2 {p : Addr} {x y : V} {d e : PyData} (hp : H p = none) (h1 : Dt K H x d) (h2 : Dt K H y e) : Dt K (upd H p (.tup [x, y])) (.ref p) (.tuple [d, e]) :=
  .tup (SqT.of upd_same) (.cons (h1.new hp) (.cons (h2.new hp) .nil))
theorem Dt.mk3 {p : Addr} {x y z : V} {d e f : PyData} (hp : H p = none) (h1 : Dt K H x d) (h2 : Dt K H y e) (h3 : Dt K H z f) : Dt K (upd H p (.tup [x, y, z])) (.ref p) (.tuple [d, e, f]) :=
  .tup (SqT.of upd_same) (.cons (h1.new hp) (.cons (h2.new hp) (.cons (h3.new hp) .nil)))
theorem Dt.mk1 {p : Addr} {x : V} {d : PyData} (hp : H p = none) (h1 : Dt K H x d) : Dt K (upd H p (.tup [x])) (.ref p) (.tuple [d]) :=
  .tup (SqT.of upd_same) (.cons (h1.new hp) .nil)
end
/-- xs[j] of a name, a tuple -/
theorem vTx {K : PySem.W.Frag} {σ : L2.St} {H : Hp} {Q : VK} {i : Nat} {p : Addr} {xs : List V} {j : Int} {v : V} (h : σ[i]? = some (some (.ref p))) (hl : SqT K H p xs) (ha : atI xs j = some v) (q : Q v H) :
    tOp (rIxT K) (tVar i) (tC (.int j)) σ H Q := ⟨_, h, p, xs, j, v, rfl, rfl, hl, ha, q⟩
section
variable {s t : Str} {A B : Prop}
theorem sT (e : s = t) (h : A) : if decide (V.str s = V.str t) = true then A else B := by rw [decide_eq_true (by rw [e])]; exact iteT h
theorem sF (e : s ≠ t) (h : B) : if decide (V.str s = V.str t) = true then A else B := by rw [decide_eq_false (fun z => e (V.str.inj z))]; exact iteF h
theorem nT (e : s ≠ t) (h : A) : if (!decide (V.str s = V.str t)) = true then A else B := by rw [decide_eq_false (fun z => e (V.str.inj z))]; exact iteT h
theorem nF (e : s = t) (h : B) : if (!decide (V.str s = V.str t)) = true then A else B := by rw [decide_eq_true (by rw [e])]; exact iteF h
end
theorem Same.upd {H H' : Hp} {p : Addr} {o : HO} (e : Same H H') (h : H p = none) : Same H (L2.upd H' p o) := fun b u q => by
  rw [upd_ne (ne_of_none q h)]
  exact e _ _ q
/-- isinstance(x, T) of a name and a built-in class -/
theorem vIsi {σ : L2.St} {H : Hp} {Q : VK} {i : Nat} {v : V} {U Tn : String} {b : Bool} (h : σ[i]? = some (some v)) (ty : TyX K H v (.type U)) (kb : kitB U Tn = some b) (q : Q (.bl b) H) :
    tCB (rIsi K) (tCons (tVar i) (tCons (tC (.ty Tn)) tNil)) σ H Q := ⟨_, h, v, .ty Tn, _, _, b, rfl, .ty Tn, ty, kit_ty kb, q⟩
theorem ty_tup {H : Hp} {a : Addr} {xs : List V} (h : SqT K H a xs) : TyX K H (.ref a) (.type "tuple") := by
  rcases h with (h | ⟨o, h⟩) | ⟨o, its, n, h, hc, _⟩
  · exact .base (.tup h)
  · exact .fTuple h
  · exact .kTuple h hc
theorem ty_lst {H : Hp} {a : Addr} {xs : List V} (h : SqL K H a xs) : TyX K H (.ref a) (.type "list") := by
  rcases h with (h | ⟨o, h⟩) | ⟨o, its, n, h, hc, _⟩
  · exact .base (.lst h)
  · exact .base (.frz h)
  · exact .kList h hc
theorem DtAll.append {K : PySem.W.Frag} {H : Hp} : ∀ {xs ys : List V} {ds es : List PyData}, DtAll K H xs ds → DtAll K H ys es → DtAll K H (xs ++ ys) (ds ++ es)
  | _, _, _, _, .nil, h => h
  | _, _, _, _, .cons a b, h => .cons a (DtAll.append b h)
/-- a list that grows is no tuple -/
theorem seqT_upd {K : PySem.W.Frag} {H : Hp} {D a : Addr} {vs ws zs : List V} (h : SqT K H a zs) (hD : H D = some (.lst vs)) : SqT K (upd H D (.lst ws)) a zs := by
  rcases h with (h | ⟨o, h⟩) | h
  · exact .inl (.inl (by rw [upd_ne (ne_of h hD (fun z => by cases z))]; exact h))
  · exact .inl (.inr ⟨o, by rw [upd_ne (ne_of h hD (fun z => by cases z))]; exact h⟩)
  · exact .inr h
theorem seqT_updK {K : PySem.W.Frag} {H : Hp} {D a : Addr} {kvs kvs' : List (Key × V)} {zs : List V} (h : SqT K H a zs) (hD : H D = some (.dK kvs)) : SqT K (upd H D (.dK kvs')) a zs := by
  rcases h with (h | ⟨o, h⟩) | h
  · exact .inl (.inl (by rw [upd_ne (ne_of h hD (fun z => by cases z))]; exact h))
  · exact .inl (.inr ⟨o, by rw [upd_ne (ne_of h hD (fun z => by cases z))]; exact h⟩)
  · exact .inr h
theorem valV_hd {k : Key} {v : V} {r : List (Key × V)} : valV ((k, v) :: r) k = some v := by simp [valV]
theorem valV_tl {k k' : Key} {v : V} {r : List (Key × V)} (h : k' ≠ k) : valV ((k', v) :: r) k = valV r k := by simp [valV, h]
theorem Pool.same {H H' : Hp} {l c : Addr} (P : Pool H l c) (e : Same H H') : Pool H' l c := by
  obtain ⟨ns, i, r, s, hl, hc, z⟩ := P
  exact ⟨ns, i, r, s, e _ _ hl, e _ _ hc, z⟩
theorem Ext.same {H H1 H2 : Hp} {l c : Addr} (x : Ext l c H H1) (e : Same H1 H2) : Ext l c H H2 := ⟨fun b o hb h => e _ _ (x.keep b o hb h), x.pool.same e⟩
/-- a new tuple at the end of a list of data -/
theorem snoc_data {K : PySem.W.Frag} {H : Hp} {D t : Addr} {o : HO} {vs : List V} {ds : List PyData} {d : PyData} (da : DtAll K H vs ds) (hD : H D = some (.lst vs)) (ht : H t = none) (dt : Dt K (upd H t o) (.ref t) d) :
    (upd H t o) D = some (.lst vs) ∧ DtAll K (upd (upd H t o) D (.lst (vs ++ [.ref t]))) (vs ++ [.ref t]) (ds ++ [d]) := by
  have h1 : (upd H t o) D = some (.lst vs) := by rw [upd_ne (ne_of_none hD ht)]; exact hD
  refine ⟨h1, DtAll.mono (fun _ _ z => seqT_upd z h1) _ _ (DtAll.append (DtAll.mono (fun _ _ z => Same.seqT (same_new ht) z) _ _ da) (.cons dt .nil))⟩
theorem DtAll.ext {K : PySem.W.Frag} {H H' : Hp} {l c : Addr} {vs : List V} {ds : List PyData} (h : DtAll K H vs ds) (P : Pool H l c) (x : Ext l c H H') : DtAll K H' vs ds := DtAll.mono (fun _ _ z => x.seqT P z) _ _ h
theorem DtAll.same {K : PySem.W.Frag} {H H' : Hp} {vs : List V} {ds : List PyData} (h : DtAll K H vs ds) (x : Same H H') : DtAll K H' vs ds := DtAll.mono (fun _ _ z => Same.seqT x z) _ _ h
end PK
namespace PK
open PySem L2
/-! the pool -/
def enc (z : Int) : Int := if 0 ≤ z then 2 * z else -2 * z - 1
def spPool (K : PySem.W.Frag) : Sp := fun vs H Q _ => ∃ (a : Addr) (ns : List Int), vs = [.ref a] ∧ SqL K H a (ns.map V.int) ∧ ns.length ≤ 63 ∧
  ∀ (H' : Hp) (l c : Addr), Same H H' → H l = none → Pool H' l c → Q (.ref l) H'
section
variable {P : Program} {w : World} {K : PySem.W.Frag} {mg : Str → Option Value} {base : Heap}
abbrev s_law_pool : Stmt := topS 17
theorem sc_law_pool : FnScope ["script", "cell"] ["script"] (defScope s_law_pool) := ⟨rfl, rfl, rfl, by decide +kernel, rfl, by decide +kernel, by decide +kernel⟩
-- slots: 0:script 1:cell(comp)
theorem ok_pool {f : Addr} {fd : FuncData} (F : Fun K "_law_pool" "_law_pool" s_law_pool f fd) :
    FnOk P w K mg base CX0 1 f fd ["script"] (spPool K) := by
  refine F.ok sc_law_pool (fun vs H Q E h => ?_) (fun cdv A outer s H vs Q E hr h => ?_)
  · obtain ⟨a, ns, rfl, _⟩ := h
    rfl
  obtain ⟨a, ns, rfl, hS, hlen, q⟩ := h
  refine ⟨_, (pss_one (ps_ret (pe_lst (pa_cons (pe_lc (own := [("cell", 1)]) (g := (gName 1)) (tt := tYes) (by rfl) sc_law_pool.nd (pi_list (pv 0)) (blkOk_by (N := ["script", "cell"]) (sc := defScope s_law_pool) (by decide +kernel)) (fun _ _ _ _ _ => (pg_name (i := 1) sc_law_pool.nd rfl (Or.inl rfl))) (fun _ _ _ _ _ => pts_nil) (fun _ _ _ _ _ => (pe_ifExp (pt_cmpR op_ge (pv 1) pe_int (nomark _)) (pe_op op_mul pe_int (pv 1)) (pe_op op_sub (pe_op op_mul (pe_un un_neg pe_int) (pv 1)) pe_int)))) (pa_cons pe_int (pa_cons pe_int (pa_cons pe_int pa_nil))))))), ?_⟩
  refine ⟨_, rfl, a, rfl, ⟨_, hS⟩, fun D hD => lc_list (K := K) (a := a) (xs := ns.map V.int) (fun i H' => i ≤ ns.length ∧ Same H H' ∧ H' D = some (.lst (((ns.take i).map enc).map V.int))) ⟨Nat.zero_le _, same_new hD, upd_same⟩ (fun i H' _ h => h.2.1.seq hS) ?_ ?_⟩
  · rintro i x H' hi ⟨_, sm, hd⟩
    have hi2 : i < ns.length := by
      have := (List.getElem?_eq_some_iff.mp hi).1
      rw [List.length_map] at this
      exact this
    rw [List.getElem?_map, List.getElem?_eq_getElem hi2] at hi
    cases hi
    have fin : ∀ z : Int, z = enc ns[i] → upd H' D (.lst (((ns.take i).map enc).map V.int ++ [V.int z])) D = some (.lst (((ns.take (i + 1)).map enc).map V.int)) := fun z e => by
      rw [upd_same, List.take_add_one, List.getElem?_eq_getElem hi2, List.map_append, List.map_append, e]
      rfl
    have ll : (((ns.take i).map enc).map V.int).length < sizeLine := by
      rw [List.length_map, List.length_map, List.length_take]
      exact smallL (by omega)
    refine ⟨rfl, yes_ ⟨_, rfl, _, _, rfl, rfl, _, rfl, ite2 (fun e => ?_) (fun e => ?_)⟩⟩
    · have e' : ns[i] ≥ 0 := of_decide_eq_true e
      exact ⟨_, rfl, _, _, rfl, rfl, .inl ⟨by decide, by decide⟩, _, hd, ll, hi2, Same.upd sm hD, fin _ (by unfold enc; rw [if_pos e'])⟩
    · have e' : ¬ ns[i] ≥ 0 := fun z => e (decide_eq_true z)
      exact ⟨_, rfl, _, rfl, _, _, rfl, rfl, .inl ⟨by decide, by decide⟩, _, _, rfl, rfl, _, hd, ll, hi2, Same.upd sm hD, fin _ (by unfold enc; rw [if_neg (by omega)])⟩
  · rintro H' ⟨_, sm, hd⟩
    rw [List.length_map, List.take_of_length_le (Nat.le_refl _)] at hd
    refine ⟨small (by show 4 ≤ _; decide), fun p hp => ?_⟩
    refine q _ p D (Same.upd sm (sm.free hp)) (sm.free hp) ⟨ns.map enc, 0, 0, 17, upd_same, by rw [upd_ne (ne_of_none hd hp)]; exact hd, ne_of_none hd hp, fun n hn => ?_, by decide, by decide, by decide, by decide, False.elim⟩
    obtain ⟨z, _, rfl⟩ := List.mem_map.mp hn
    unfold enc
    split <;> omega
end
end PK
namespace PK
open PySem L2
theorem DtAll.lenD {K : PySem.W.Frag} {H : Hp} : ∀ {xs : List V} {ds : List PyData}, DtAll K H xs ds → xs.length = ds.length
  | _, _, .nil => rfl
  | _, _, .cons _ t => by rw [List.length_cons, List.length_cons, DtAll.lenD t]
theorem DtAll.getX {K : PySem.W.Frag} {H : Hp} : ∀ {xs : List V} {ds : List PyData} {i : Nat} {x : V}, DtAll K H xs ds → xs[i]? = some x → ∃ d, ds[i]? = some d ∧ Dt K H x d
  | _, _, _, _, .nil, e => by simp at e
  | _, _, 0, _, .cons h _, e => by simp at e; subst e; exact ⟨_, rfl, h⟩
  | _, _, i + 1, _, .cons _ t, e => by
    obtain ⟨d, h1, h2⟩ := DtAll.getX (i := i) t (by simpa using e)
    exact ⟨d, by simpa using h1, h2⟩
theorem DtAll.getD {K : PySem.W.Frag} {H : Hp} : ∀ {xs : List V} {ds : List PyData} {i : Nat} {d : PyData}, DtAll K H xs ds → ds[i]? = some d → ∃ x, xs[i]? = some x ∧ Dt K H x d
  | _, _, _, _, .nil, e => by simp at e
  | _, _, 0, _, .cons h _, e => by simp at e; subst e; exact ⟨_, rfl, h⟩
  | _, _, i + 1, _, .cons _ t, e => by
    obtain ⟨d, h1, h2⟩ := DtAll.getD (i := i) t (by simpa using e)
    exact ⟨d, by simpa using h1, h2⟩
theorem DtAll.splitR {K : PySem.W.Frag} {H : Hp} : ∀ {xs : List V} {ds es : List PyData}, DtAll K H xs (ds ++ es) → ∃ ys zs, xs = ys ++ zs ∧ DtAll K H ys ds ∧ DtAll K H zs es
  | xs, [], es, h => ⟨[], xs, rfl, .nil, h⟩
  | _, d :: ds, es, h => by
    cases h with
    | cons h t =>
      obtain ⟨ys, zs, rfl, h1, h2⟩ := DtAll.splitR (ds := ds) t
      exact ⟨_ :: ys, zs, rfl, .cons h h1, h2⟩
theorem DtAll.ints {K : PySem.W.Frag} {H : Hp} : ∀ ns : List Int, DtAll K H (ns.map V.int) (ns.map PyData.int)
  | [] => .nil
  | n :: r => .cons (.int n) (DtAll.ints r)
theorem DtAll.intsE {K : PySem.W.Frag} {H : Hp} : ∀ {xs : List V} {ns : List Int}, DtAll K H xs (ns.map PyData.int) → xs = ns.map V.int
  | _, [], h => by cases h; rfl
  | _, n :: r, h => by
    cases h with
    | cons h t => rw [h.i, DtAll.intsE t]; rfl
theorem DtAll.upd {K : PySem.W.Frag} {H : Hp} {D : Addr} {vs us xs : List V} {ds : List PyData} (h : DtAll K H xs ds) (hD : H D = some (.lst vs)) : DtAll K (L2.upd H D (.lst us)) xs ds := DtAll.mono (fun _ _ z => seqT_upd z hD) _ _ h
theorem Dt.updL {K : PySem.W.Frag} {H : Hp} {D : Addr} {vs us : List V} {x : V} {d : PyData} (h : Dt K H x d) (hD : H D = some (.lst vs)) : Dt K (L2.upd H D (.lst us)) x d := Dt.mono (fun _ _ z => seqT_upd z hD) _ _ h
section
variable {K : PySem.W.Frag} {It : It} {n : Nat} {G : Hp → Prop} {Y : Nat → Hp → V → Hp → Prop}
/-- a comprehension of data, all else kept -/
theorem lcS (wk : Walk It n G Y) {g : TG} {te : TE} {vs : List Nat} {σ : L2.St} {H1 : Hp} {D : Addr} {Qd : Hp → Prop} (hD : H1 D = none) (hn : n ≤ 10000000) (Jv : List PyData → Prop) (j0 : Jv []) (hG : ∀ H', Same H1 H' → G H')
    (hs : ∀ i x H H' ds (R : V → Hp → Prop), i < n → Same H1 H → Y i H x H' → Jv ds → ds.length = i → (∀ d y H4, Same H H4 → Dt K H4 y d → Jv (ds ++ [d]) → R y H4) → g x (wipe σ vs) H' fun σ2 H2 => wipe σ2 vs = wipe σ vs ∧ te σ2 H2 R)
    (hd : ∀ H' ws ds, Same H1 H' → H' D = some (.lst ws) → DtAll K H' ws ds → ds.length = n → Jv ds → Qd H') :
    ∃ W : Nat → Nat → Hp → Prop, (∃ m, W 0 m (upd H1 D (.lst []))) ∧ ∀ i m H, W i m H →
      (It.stop i H ∧ Qd H) ∨ (It.go i H ∧ ∃ Nx : Hp → Prop, (∀ H', Nx H' → ∃ m', m' < m ∧ W (i + 1) m' H') ∧ ∀ x H', It.yld i H x H' → g x (wipe σ vs) H' fun σ2 H2 => wipe σ2 vs = wipe σ vs ∧ tYes σ2 H2 fun b H3 =>
        if b = true then te σ2 H3 fun y H4 => ∃ acc, H4 D = some (.lst acc) ∧ acc.length < sizeLine ∧ Nx (upd H4 D (.lst (acc ++ [y]))) else Nx H3) := by
  refine lc_it wk (fun i H' => ∃ (ws : List V) (ds : List PyData), Same H1 H' ∧ H' D = some (.lst ws) ∧ DtAll K H' ws ds ∧ ds.length = i ∧ Jv ds) ⟨[], [], same_new hD, upd_same, .nil, rfl, j0⟩ (fun i H' _ h => ?_) (fun i x H H' hi h y => ?_) (fun H' h => ?_)
  · obtain ⟨_, _, s, _⟩ := h
    exact hG _ s
  · obtain ⟨ws, ds, s, hw, da, len, j⟩ := h
    refine hs i x H H' ds (fun y H4 => ∃ acc, H4 D = some (.lst acc) ∧ acc.length < sizeLine ∧ ∃ (ws : List V) (ds : List PyData), Same H1 (upd H4 D (.lst (acc ++ [y]))) ∧ (upd H4 D (.lst (acc ++ [y]))) D = some (.lst ws) ∧ DtAll K (upd H4 D (.lst (acc ++ [y]))) ws ds ∧ ds.length = i + 1 ∧ Jv ds) hi s y j len fun d y H4 s4 dy j4 => ?_
    have hw4 := s4 _ _ hw
    refine ⟨ws, hw4, smallL (by rw [da.lenD, len]; omega), ws ++ [y], ds ++ [d], Same.upd (s.trans s4) hD, upd_same, ?_, by rw [List.length_append, len]; rfl, j4⟩
    exact ((da.same s4).append (.cons dy .nil)).upd hw4
  · obtain ⟨ws, ds, s, hw, da, len, j⟩ := h
    exact hd _ ws ds s hw da len j
/-- a comprehension of data that draws from the pool -/
theorem lcX (wk : Walk It n G Y) {g : TG} {te : TE} {vs : List Nat} {σ : L2.St} {H1 : Hp} {D l c : Addr} {Qd : Hp → Prop} (P : Pool H1 l c) (hD : H1 D = none) (hn : n ≤ 10000000) (Jv : List PyData → Prop) (j0 : Jv []) (hG : ∀ H', Ext l c H1 H' → G H')
    (hs : ∀ i x H H' ds (R : V → Hp → Prop), i < n → Ext l c H1 H → Y i H x H' → Jv ds → ds.length = i → (∀ d y H4, Ext l c H H4 → Dt K H4 y d → Jv (ds ++ [d]) → R y H4) → g x (wipe σ vs) H' fun σ2 H2 => wipe σ2 vs = wipe σ vs ∧ te σ2 H2 R)
    (hd : ∀ H' ws ds, Ext l c H1 H' → H' D = some (.lst ws) → DtAll K H' ws ds → ds.length = n → Jv ds → Qd H') :
    ∃ W : Nat → Nat → Hp → Prop, (∃ m, W 0 m (upd H1 D (.lst []))) ∧ ∀ i m H, W i m H →
      (It.stop i H ∧ Qd H) ∨ (It.go i H ∧ ∃ Nx : Hp → Prop, (∀ H', Nx H' → ∃ m', m' < m ∧ W (i + 1) m' H') ∧ ∀ x H', It.yld i H x H' → g x (wipe σ vs) H' fun σ2 H2 => wipe σ2 vs = wipe σ vs ∧ tYes σ2 H2 fun b H3 =>
        if b = true then te σ2 H3 fun y H4 => ∃ acc, H4 D = some (.lst acc) ∧ acc.length < sizeLine ∧ Nx (upd H4 D (.lst (acc ++ [y]))) else Nx H3) := by
  have nD := (P.ne hD).1
  refine lc_it wk (fun i H' => ∃ (ws : List V) (ds : List PyData), Ext l c H1 H' ∧ H' D = some (.lst ws) ∧ DtAll K H' ws ds ∧ ds.length = i ∧ Jv ds) ⟨[], [], (Ext.refl P).new P hD, upd_same, .nil, rfl, j0⟩ (fun i H' _ h => ?_) (fun i x H H' hi h y => ?_) (fun H' h => ?_)
  · obtain ⟨_, _, s, _⟩ := h
    exact hG _ s
  · obtain ⟨ws, ds, s, hw, da, len, j⟩ := h
    refine hs i x H H' ds (fun y H4 => ∃ acc, H4 D = some (.lst acc) ∧ acc.length < sizeLine ∧ ∃ (ws : List V) (ds : List PyData), Ext l c H1 (upd H4 D (.lst (acc ++ [y]))) ∧ (upd H4 D (.lst (acc ++ [y]))) D = some (.lst ws) ∧ DtAll K (upd H4 D (.lst (acc ++ [y]))) ws ds ∧ ds.length = i + 1 ∧ Jv ds) hi s y j len fun d y H4 s4 dy j4 => ?_
    have hw4 := s4.keep _ _ nD hw
    refine ⟨ws, hw4, smallL (by rw [da.lenD, len]; omega), ws ++ [y], ds ++ [d], (s.trans s4).upd P hD, upd_same, ?_, by rw [List.length_append, len]; rfl, j4⟩
    exact ((da.ext s.pool s4).append (.cons dy .nil)).upd hw4
  · obtain ⟨ws, ds, s, hw, da, len, j⟩ := h
    exact hd _ ws ds s hw da len j
end
end PK
namespace PK
open PySem L2
/-! terms, with the forms of results -/
inductive Fm where | get | set | plus | minus
deriving DecidableEq
def Fm.s : Fm → Str
  | .get => "get" | .set => "set" | .plus => "plus" | .minus => "minus"
inductive Tm where
  | int (n : Int)
  | name (s : Str)
  | addr (n : Int)
  | var (s : Str)
  | node (c : Str) (ts : List Tm)
  | map (es : List (Str × Tm))
  | form (f : Fm) (ts : List Tm)
mutual
def Tm.d : Tm → PyData
  | .int n => .tuple [.str "int", .int n]
  | .name s => .tuple [.str "name", .str s]
  | .addr n => .tuple [.str "addr", .int n]
  | .var s => .tuple [.str "meta", .str s]
  | .node c ts => .tuple [.str "node", .str c, .tuple (Tm.ds ts)]
  | .map es => .tuple [.str "map", .tuple (Tm.es es)]
  | .form f ts => .tuple (.str f.s :: Tm.ds ts)
def Tm.ds : List Tm → List PyData
  | [] => []
  | t :: r => t.d :: Tm.ds r
def Tm.es : List (Str × Tm) → List PyData
  | [] => []
  | (w, t) :: r => .tuple [.str w, t.d] :: Tm.es r
end
theorem Tm.ds_map : ∀ ts : List Tm, Tm.ds ts = ts.map Tm.d
  | [] => by unfold Tm.ds; rfl
  | t :: r => by unfold Tm.ds; rw [Tm.ds_map r]; rfl
def Tm.ent (e : Str × Tm) : PyData := .tuple [.str e.1, e.2.d]
theorem Tm.es_map : ∀ es : List (Str × Tm), Tm.es es = es.map Tm.ent
  | [] => by unfold Tm.es; rfl
  | (w, t) :: r => by unfold Tm.es; rw [Tm.es_map r]; rfl
def Tm.kids : Tm → List Tm
  | .node _ ts => ts
  | .form _ ts => ts
  | .map es => es.map Prod.snd
  | _ => []
def Tm.hd : Tm → Str
  | .int _ => "int" | .name _ => "name" | .addr _ => "addr" | .var _ => "meta" | .node _ _ => "node" | .map _ => "map" | .form f _ => f.s
theorem Tm.kid_lt {t k : Tm} (h : k ∈ t.kids) : sizeOf k < sizeOf t := by
  cases t with
  | node c ts => have := List.sizeOf_lt_of_mem (as := ts) h; simp only [Tm.node.sizeOf_spec]; omega
  | form c ts => have := List.sizeOf_lt_of_mem (as := ts) h; simp only [Tm.form.sizeOf_spec]; omega
  | map es =>
    obtain ⟨e, he, rfl⟩ := List.mem_map.mp h
    have := List.sizeOf_lt_of_mem he
    have e2 : sizeOf e = 1 + sizeOf e.1 + sizeOf e.2 := by cases e; rfl
    simp only [Tm.map.sizeOf_spec]
    omega
  | int _ => cases h
  | name _ => cases h
  | addr _ => cases h
  | var _ => cases h
/-- induction over the direct parts -/
theorem Tm.ind {p : Tm → Prop} (h : ∀ t : Tm, (∀ k ∈ t.kids, p k) → p t) (t : Tm) : p t := by
  have : ∀ n (t : Tm), sizeOf t ≤ n → p t := by
    intro n
    induction n with
    | zero => intro t ht; cases t <;> simp at ht
    | succ n ih => exact fun t ht => h t fun k hk => ih k (by have := Tm.kid_lt hk; omega)
  exact this _ t (Nat.le_refl _)
def Tm.size (t : Tm) : Nat := 1 + (t.kids.attach.map fun k => k.1.size).sum
termination_by sizeOf t
decreasing_by exact Tm.kid_lt k.2
theorem Tm.size_eq (t : Tm) : t.size = 1 + (t.kids.map Tm.size).sum := by
  rw [Tm.size, List.attach_map_val (f := Tm.size)]
/-- the first data of the tuple of a term -/
theorem Tm.d_hd (t : Tm) : ∃ r, t.d = .tuple (.str t.hd :: r) := by
  cases t <;> exact ⟨_, by unfold Tm.d; rfl⟩
def longI (n : Int) : Bool := decide (10 ^ 15 ≤ (if n < 0 then -n else n))
def Tm.long : Tm → Bool
  | .int n => longI n
  | _ => false
/-- too deep, or a long integer, in a term at a depth -/
def Tm.bad (t : Tm) (d : Nat) : Bool := decide (100 < d) || t.long || t.kids.attach.any fun k => k.1.bad (d + 1)
termination_by sizeOf t
decreasing_by exact Tm.kid_lt k.2
theorem any_attach {α : Type} (l : List α) (p : α → Bool) : (l.attach.any fun k => p k.1) = l.any p := by
  exact (List.any_map (l := l.attach) (f := Subtype.val) (p := p)).symm.trans (by rw [List.attach_map_subtype_val])
theorem Tm.bad_eq (t : Tm) (d : Nat) : t.bad d = (decide (100 < d) || t.long || t.kids.any fun k => k.bad (d + 1)) := by
  rw [Tm.bad, any_attach t.kids (fun k => k.bad (d + 1))]
/-- the kids as data -/
theorem Tm.dt_parts {K : PySem.W.Frag} {H : Hp} {v : V} {t : Tm} (h : Dt K H v t.d) : ∃ (a : Addr) (r : List V), v = .ref a ∧ SqT K H a (.str t.hd :: r) := by
  obtain ⟨r, e⟩ := t.d_hd
  rw [e] at h
  obtain ⟨a, xs, rfl, s, da⟩ := Dt.tn h
  cases da with
  | cons h1 r1 => rw [h1.s] at s; exact ⟨a, _, rfl, s⟩
structure TxtT (K : PySem.W.Frag) (mg : Str → Option Value) (aF : Addr) : Prop extends Txt K mg where
  g_FO : mg "_FORMS" = some (.ref aF)
  forms : ∀ H, SqT K H aF [.str "get", .str "set", .str "plus", .str "minus"]
def spKids (K : PySem.W.Frag) : Sp := fun vs H Q _ => ∃ (v : V) (t : Tm), vs = [v] ∧ Dt K H v t.d ∧ t.kids.length ≤ 10000000 ∧
  ∀ (H' : Hp) (p : Addr) (ws : List V), Same H H' → SqT K H' p ws → DtAll K H' ws (t.kids.map Tm.d) → Q (.ref p) H'
theorem Fm.ne_node (f : Fm) : f.s ≠ "node" := by cases f <;> decide +kernel
theorem Fm.ne_map (f : Fm) : f.s ≠ "map" := by cases f <;> decide +kernel
theorem Fm.inF (f : Fm) : inV (.str f.s) [V.str "get", V.str "set", V.str "plus", V.str "minus"] = true := by cases f <;> decide +kernel
section
variable {P : Program} {w : World} {K : PySem.W.Frag} {mg : Str → Option Value} {base : Heap} {aF : Addr}
abbrev s_children : Stmt := topS 5
theorem sc_children : FnScope ["term", "_", "entry"] ["term"] (defScope s_children) := ⟨rfl, rfl, rfl, by decide +kernel, rfl, by decide +kernel, by decide +kernel⟩
-- slots: 0:term 1:_(comp) 2:entry(comp)
theorem ok_kids {f : Addr} {fd : FuncData} (F : Fun K "children" "children" s_children f fd) (T : TxtT K mg aF) : FnOk P w K mg base CX0 1 f fd ["term"] (spKids K) := by
  refine F.ok sc_children (fun vs H Q E h => ?_) (fun cdv A outer s H vs Q E hr h => ?_)
  · obtain ⟨v, t, rfl, _⟩ := h
    rfl
  obtain ⟨v, t, rfl, hv, hn, q⟩ := h
  refine ⟨_, (pss_cons (ps_if (pt_cmpR op_eq (pe_ix ix_tup (pv 0) pe_int (fun _ _ => rfl)) pe_str (nomark _)) (pss_one (ps_ret (pe_ix ix_tup (pv 0) pe_int (fun _ _ => rfl)))) pss_nil)
    (pss_cons (ps_if (pt_cmpR op_eq (pe_ix ix_tup (pv 0) pe_int (fun _ _ => rfl)) pe_str (nomark _)) (pss_one (ps_ret (pe_callTy call_tuple_of (by rfl) T.z_tuple (by decide +kernel) (pa_cons (pe_lc (own := [("_", 1), ("entry", 2)]) (g := (gTup K 2 (gCons (gName 1) (gCons (gName 2) gNil)))) (tt := tYes) (by rfl) sc_children.nd (pi_tup (pe_ix ix_tup (pv 0) pe_int (fun _ _ => rfl))) (blkOk_by (N := ["term", "_", "entry"]) (sc := defScope s_children) (by decide +kernel)) (fun _ _ _ _ _ => (pg_tup (by rfl) (pgs_cons (pg_name (i := 1) sc_children.nd rfl (Or.inl rfl)) (pgs_cons (pg_name (i := 2) sc_children.nd rfl (Or.inl rfl)) pgs_nil)))) (fun _ _ _ _ _ => pts_nil) (fun _ _ _ _ _ => (pv 2))) pa_nil)))) pss_nil)
    (pss_cons (ps_if (pt_cmpR op_in_seq (pe_ix ix_tup (pv 0) pe_int (fun _ _ => rfl)) (pe_glob (v := .ref aF) rfl T.g_FO rfl) rfl) (pss_one (ps_ret (pe_slice sl_tup (pv 0) (po_some pe_int) po_none))) pss_nil)
    (pss_one (ps_ret (pe_tup pa_nil)))))), ?_⟩
  cases t with
  | node c ts =>
    unfold Tm.d at hv
    obtain ⟨a, x, y, z, rfl, hs, h1, h2, h3⟩ := Dt.t3 hv
    obtain rfl := h1.s
    obtain ⟨b, ys, rfl, hb, hys⟩ := Dt.tn h3
    refine vTx rfl hs rfl ⟨rfl, _, rfl, sT rfl (vTx rfl hs rfl ?_)⟩
    exact q H b ys (Same.refl H) hb (by rw [Tm.ds_map] at hys; exact hys)
  | map es =>
    unfold Tm.d at hv
    obtain ⟨a, x, y, rfl, hs, h1, h2⟩ := Dt.t2 hv
    obtain rfl := h1.s
    obtain ⟨b, ys, rfl, hb, hys⟩ := Dt.tn h2
    rw [Tm.es_map] at hys
    have ly : ys.length = es.length := by rw [hys.lenD, List.length_map]
    have hn' : es.length ≤ 10000000 := by rw [show (Tm.map es).kids = es.map Prod.snd from rfl, List.length_map] at hn; exact hn
    refine vTx rfl hs rfl ⟨rfl, _, rfl, sF (by decide +kernel) (vTx rfl hs rfl ⟨rfl, _, rfl, sT rfl ?_⟩)⟩
    refine vTx rfl hs rfl ⟨b, rfl, ⟨_, hb⟩, fun D hD => lcS (K := K) (walk_tup (xs := ys)) hD (by omega) (fun ds => ds = (es.take ds.length).map fun e => e.2.d) rfl (fun H' s => Same.seqT s hb) ?_ ?_⟩
    · rintro i x H1 H2 ds R hi s ⟨rfl, gx⟩ jd len r
      obtain ⟨e, ge, dx⟩ := DtAll.getX hys gx
      rw [List.getElem?_map] at ge
      cases e0 : es[i]? with
      | none => rw [e0] at ge; cases ge
      | some en =>
        rw [e0] at ge
        cases ge
        obtain ⟨a1, x1, y1, rfl, hs1, k1, k2⟩ := Dt.t2 (dx.same s)
        refine ⟨a1, _, rfl, hs1, rfl, _, _, rfl, _, _, rfl, rfl, rfl, _, rfl, r en.2.d y1 _ (Same.refl _) k2 ?_⟩
        rw [List.length_append, len, show i + [en.2.d].length = i + 1 from rfl, List.take_add_one, e0, List.map_append]
        rw [len] at jd
        rw [← jd]; rfl
    · rintro H' ws ds s hw da len jd
      rw [len, ly, List.take_length] at jd
      refine ⟨D, _, rfl, .inl ⟨SqL.of hw, fun p hp => ?_⟩⟩
      refine q _ p ws (Same.upd s ((Same.refl H).trans s |>.free hp)) (SqT.of upd_same) ?_
      rw [jd] at da
      rw [show (Tm.map es).kids.map Tm.d = es.map fun e => e.2.d from by unfold Tm.kids; rw [List.map_map]; rfl]
      exact da.same (same_new hp)
  | form g ts =>
    unfold Tm.d at hv
    obtain ⟨a, xs, rfl, hs, da⟩ := Dt.tn hv
    cases da with
    | cons h1 dr =>
    obtain rfl := h1.s
    rename_i vs1
    refine vTx rfl hs (atI_nat (j := 0) rfl) ⟨rfl, _, rfl, sF g.ne_node (vTx rfl hs (atI_nat (j := 0) rfl) ⟨rfl, _, rfl, sF g.ne_map (vTx (v := .str g.s) rfl hs (atI_nat (j := 0) rfl) ⟨aF, _, rfl, .inr (T.forms H), rfl, rfl, _, rfl, ?_⟩)⟩)⟩
    rw [if_neg Bool.false_ne_true, g.inF]
    refine iteT ⟨_, rfl, _, rfl, a, _, rfl, hs, fun z => ?_, fun p hp => ?_⟩
    · have e := z.1
      revert e
      show (HT.sIx (vs1.length + 1) 0 (some 1) = 0) → False
      unfold HT.sIx
      intro e
      simp at e
    · have ec : cutV (V.str g.s :: vs1) (some 1) none = vs1 := by
        unfold cutV HT.sIx
        simp
      rw [ec]
      refine q _ p vs1 (same_new hp) (SqT.of upd_same) ?_
      rw [Tm.ds_map] at dr
      exact dr.same (same_new hp)
  | int n =>
    unfold Tm.d at hv
    obtain ⟨a, x, y, rfl, hs, h1, h2⟩ := Dt.t2 hv
    obtain rfl := h1.s
    refine vTx rfl hs rfl ⟨rfl, _, rfl, sF (by decide +kernel) (vTx rfl hs rfl ⟨rfl, _, rfl, sF (by decide +kernel) (vTx (v := .str "int") rfl hs rfl ⟨aF, _, rfl, .inr (T.forms H), rfl, rfl, _, rfl, ?_⟩)⟩)⟩
    rw [if_neg Bool.false_ne_true, show inV (.str "int") [V.str "get", V.str "set", V.str "plus", V.str "minus"] = false by decide +kernel]
    exact iteF ⟨Nat.zero_le _, fun p hp => q _ p [] (same_new hp) (SqT.of upd_same) .nil⟩
  | name n =>
    unfold Tm.d at hv
    obtain ⟨a, x, y, rfl, hs, h1, h2⟩ := Dt.t2 hv
    obtain rfl := h1.s
    refine vTx rfl hs rfl ⟨rfl, _, rfl, sF (by decide +kernel) (vTx rfl hs rfl ⟨rfl, _, rfl, sF (by decide +kernel) (vTx (v := .str "name") rfl hs rfl ⟨aF, _, rfl, .inr (T.forms H), rfl, rfl, _, rfl, ?_⟩)⟩)⟩
    rw [if_neg Bool.false_ne_true, show inV (.str "name") [V.str "get", V.str "set", V.str "plus", V.str "minus"] = false by decide +kernel]
    exact iteF ⟨Nat.zero_le _, fun p hp => q _ p [] (same_new hp) (SqT.of upd_same) .nil⟩
  | addr n =>
    unfold Tm.d at hv
    obtain ⟨a, x, y, rfl, hs, h1, h2⟩ := Dt.t2 hv
    obtain rfl := h1.s
    refine vTx rfl hs rfl ⟨rfl, _, rfl, sF (by decide +kernel) (vTx rfl hs rfl ⟨rfl, _, rfl, sF (by decide +kernel) (vTx (v := .str "addr") rfl hs rfl ⟨aF, _, rfl, .inr (T.forms H), rfl, rfl, _, rfl, ?_⟩)⟩)⟩
    rw [if_neg Bool.false_ne_true, show inV (.str "addr") [V.str "get", V.str "set", V.str "plus", V.str "minus"] = false by decide +kernel]
    exact iteF ⟨Nat.zero_le _, fun p hp => q _ p [] (same_new hp) (SqT.of upd_same) .nil⟩
  | var n =>
    unfold Tm.d at hv
    obtain ⟨a, x, y, rfl, hs, h1, h2⟩ := Dt.t2 hv
    obtain rfl := h1.s
    refine vTx rfl hs rfl ⟨rfl, _, rfl, sF (by decide +kernel) (vTx rfl hs rfl ⟨rfl, _, rfl, sF (by decide +kernel) (vTx (v := .str "meta") rfl hs rfl ⟨aF, _, rfl, .inr (T.forms H), rfl, rfl, _, rfl, ?_⟩)⟩)⟩
    rw [if_neg Bool.false_ne_true, show inV (.str "meta") [V.str "get", V.str "set", V.str "plus", V.str "minus"] = false by decide +kernel]
    exact iteF ⟨Nat.zero_le _, fun p hp => q _ p [] (same_new hp) (SqT.of upd_same) .nil⟩
end
end PK
namespace PK
open PySem L2
/-! rebuild -/
structure TxtZ (K : PySem.W.Frag) (mg : Str → Option Value) (aF : Addr) : Prop extends TxtT K mg aF where
  z_zip : mg "zip" = none
  z_reversed : mg "reversed" = none
  z_dict : mg "dict" = none
  z_sum : mg "sum" = none
def Tm.withKids : Tm → List Tm → Tm
  | .node c _, ks => .node c ks
  | .map es, ks => .map (List.zipWith (fun e k => (e.1, k)) es ks)
  | .form f _, ks => .form f ks
  | t, _ => t
def spRebuild (K : PySem.W.Frag) : Sp := fun vs H Q _ => ∃ (v : V) (t : Tm) (a : Addr) (ws : List V) (ks : List Tm), vs = [v, .ref a] ∧ Dt K H v t.d ∧ SqL K H a ws ∧ DtAll K H ws (ks.map Tm.d) ∧ ks.length = t.kids.length ∧ ks.length ≤ 10000000 ∧
  ∀ (H' : Hp) (v' : V), Same H H' → Dt K H' v' (t.withKids ks).d → Q v' H'
section
variable {P : Program} {w : World} {K : PySem.W.Frag} {mg : Str → Option Value} {base : Heap} {aF : Addr}
abbrev s_rebuild : Stmt := topS 6
theorem sc_rebuild : FnScope ["term", "parts", "part", "word", "_"] ["term", "parts"] (defScope s_rebuild) := ⟨rfl, rfl, rfl, by decide +kernel, rfl, by decide +kernel, by decide +kernel⟩
-- slots: 0:term 1:parts 2:part(comp) 3:word(comp) 4:_(comp)
theorem ok_rebuild {f : Addr} {fd : FuncData} (F : Fun K "rebuild" "rebuild" s_rebuild f fd) (T : TxtZ K mg aF) : FnOk P w K mg base CX0 1 f fd ["term", "parts"] (spRebuild K) := by
  refine F.ok sc_rebuild (fun vs H Q E h => ?_) (fun cdv A outer s H vs Q E hr h => ?_)
  · obtain ⟨v, t, a, ws, ks, rfl, _⟩ := h
    rfl
  obtain ⟨v, t, a, ws, ks, rfl, hv, hS, da, lk, hn, q⟩ := h
  refine ⟨_, (pss_cons (ps_if (pt_cmpR op_eq (pe_ix ix_tup (pv 0) pe_int (fun _ _ => rfl)) pe_str (nomark _)) (pss_one (ps_ret (pe_tup (pa_cons pe_str (pa_cons (pe_ix ix_tup (pv 0) pe_int (fun _ _ => rfl)) (pa_cons (pe_callTy call_tuple_of (by rfl) T.z_tuple (by decide +kernel) (pa_cons (pv 1) pa_nil)) pa_nil)))))) pss_nil)
    (pss_cons (ps_if (pt_cmpR op_eq (pe_ix ix_tup (pv 0) pe_int (fun _ _ => rfl)) pe_str (nomark _)) (pss_one (ps_ret (pe_tup (pa_cons pe_str (pa_cons (pe_callTy call_tuple_of (by rfl) T.z_tuple (by decide +kernel) (pa_cons (pe_lc (own := [("part", 2), ("word", 3), ("_", 4)]) (g := (gTup K 2 (gCons (gTup K 2 (gCons (gName 3) (gCons (gName 4) gNil))) (gCons (gName 2) gNil)))) (tt := tYes) (by rfl) sc_rebuild.nd (PKZ.pi_zipP (by rfl) T.z_zip (pa_cons (pe_ix ix_tup (pv 0) pe_int (fun _ _ => rfl)) (pa_cons (pv 1) pa_nil))) (blkOk_by (N := ["term", "parts", "part", "word", "_"]) (sc := defScope s_rebuild) (by decide +kernel)) (fun _ _ _ _ _ => (pg_tup (by rfl) (pgs_cons (pg_tup (by rfl) (pgs_cons (pg_name (i := 3) sc_rebuild.nd rfl (Or.inl rfl)) (pgs_cons (pg_name (i := 4) sc_rebuild.nd rfl (Or.inl rfl)) pgs_nil))) (pgs_cons (pg_name (i := 2) sc_rebuild.nd rfl (Or.inl rfl)) pgs_nil)))) (fun _ _ _ _ _ => pts_nil) (fun _ _ _ _ _ => (pe_tup (pa_cons (pv 3) (pa_cons (pv 2) pa_nil))))) pa_nil)) pa_nil))))) pss_nil)
    (pss_cons (ps_if (pt_cmpR op_in_seq (pe_ix ix_tup (pv 0) pe_int (fun _ _ => rfl)) (pe_glob (v := .ref aF) rfl T.g_FO rfl) rfl) (pss_one (ps_ret (pe_tup (pa_cons (pe_ix ix_tup (pv 0) pe_int (fun _ _ => rfl)) (StX.pa_star (pv 1) pa_nil))))) pss_nil)
    (pss_one (ps_ret (pv 0)))))), ?_⟩
  have lw : ws.length = ks.length := by rw [da.lenD, List.length_map]
  cases t with
  | node c ts =>
    unfold Tm.d at hv
    obtain ⟨b, x, y, z, rfl, hs, h1, h2, h3⟩ := Dt.t3 hv
    obtain rfl := h1.s
    refine vTx rfl hs rfl ⟨rfl, _, rfl, sT rfl (vTx rfl hs rfl ?_)⟩
    refine ⟨_, rfl, a, ws, rfl, .inl ⟨hS, fun p hp => ⟨small (by show 3 ≤ _; decide), fun p2 hp2 => ?_⟩⟩⟩
    refine q _ _ ((same_new hp).trans (same_new hp2)) ?_
    show Dt K _ _ (Tm.node c ks).d
    unfold Tm.d
    rw [Tm.ds_map]
    exact Dt.mk3 hp2 (.str "node") (h2.new hp) (.tup (SqT.of upd_same) (da.same (same_new hp)))
  | map es =>
    unfold Tm.d at hv
    obtain ⟨b, x, y, rfl, hs, h1, h2⟩ := Dt.t2 hv
    obtain rfl := h1.s
    obtain ⟨b2, ys, rfl, hb, hys⟩ := Dt.tn h2
    rw [Tm.es_map] at hys
    have ly : ys.length = es.length := by rw [hys.lenD, List.length_map]
    have lk' : ks.length = es.length := by rw [lk]; unfold Tm.kids; rw [List.length_map]
    refine vTx rfl hs rfl ⟨rfl, _, rfl, sF (by decide +kernel) (vTx rfl hs rfl ⟨rfl, _, rfl, sT rfl ?_⟩)⟩
    refine vTx rfl hs rfl ⟨_, rfl, .t, .l, b2, a, ys, ws, rfl, hb, hS, fun D hD => lcS (K := K) (PKZ.walk_zipP (n := ws.length) (by omega)) hD (by omega) (fun ds => ds = (List.zipWith (fun (e : Str × Tm) (k : Tm) => Tm.ent (e.1, k)) (es.take ds.length) (ks.take ds.length))) rfl (fun H' s => ⟨Same.seqT s hb, s.seq hS⟩) ?_ ?_⟩
    · rintro i x H1 H2 ds R hi s ⟨U, x1, y1, rfl, hU, rfl, g1, g2⟩ jd len r
      obtain ⟨e, ge, dx⟩ := DtAll.getX hys g1
      obtain ⟨d2, gd, dy⟩ := DtAll.getX da g2
      rw [List.getElem?_map] at ge gd
      cases e0 : es[i]? with
      | none => rw [e0] at ge; cases ge
      | some en =>
      cases k0 : ks[i]? with
      | none => rw [k0] at gd; cases gd
      | some kn =>
        rw [e0] at ge
        rw [k0] at gd
        cases ge
        cases gd
        unfold Tm.ent at dx
        obtain ⟨a1, u1, w1, rfl, hs1, j1, j2⟩ := Dt.t2 (dx.same s)
        obtain rfl := j1.s
        refine ⟨U, _, rfl, SqT.of upd_same, rfl, _, _, rfl, ⟨a1, _, rfl, Same.seqT (same_new hU) hs1, rfl, _, _, rfl, _, _, rfl, rfl, _, _, rfl, rfl, rfl, _, rfl, _, rfl, small (by show 2 ≤ _; decide), fun p hp => r (Tm.ent (en.1, kn)) _ _ ((same_new hU).trans (same_new hp)) ?_ ?_⟩⟩
        · unfold Tm.ent
          exact Dt.mk2 hp (.str _) ((dy.same s).new hU)
        · rw [List.length_append, len, show i + [Tm.ent (en.1, kn)].length = i + 1 from rfl, List.take_add_one, List.take_add_one, e0, k0]
          rw [len] at jd
          rw [List.zipWith_append (by rw [List.length_take, List.length_take]; omega), ← jd]; rfl
    · rintro H' vs ds s hw dz len jd
      rw [len, lw, List.take_length, lk', List.take_length] at jd
      refine ⟨D, _, rfl, .inl ⟨SqL.of hw, fun p hp => ⟨small (by show 2 ≤ _; decide), fun p2 hp2 => ?_⟩⟩⟩
      refine q _ _ ((s.trans (same_new hp)).trans (same_new hp2)) ?_
      show Dt K _ _ (Tm.map (List.zipWith (fun e k => (e.1, k)) es ks)).d
      unfold Tm.d
      rw [Tm.es_map, List.map_zipWith]
      rw [jd] at dz
      exact Dt.mk2 hp2 (.str "map") (.tup (SqT.of upd_same) (dz.same (same_new hp)))
  | form g ts =>
    unfold Tm.d at hv
    obtain ⟨b, xs, rfl, hs, db⟩ := Dt.tn hv
    cases db with
    | cons h1 dr =>
    obtain rfl := h1.s
    rename_i vs1
    refine vTx rfl hs (atI_nat (j := 0) rfl) ⟨rfl, _, rfl, sF g.ne_node (vTx rfl hs (atI_nat (j := 0) rfl) ⟨rfl, _, rfl, sF g.ne_map (vTx (v := .str g.s) rfl hs (atI_nat (j := 0) rfl) ⟨aF, _, rfl, .inr (T.forms H), rfl, rfl, _, rfl, ?_⟩)⟩)⟩
    rw [if_neg Bool.false_ne_true, g.inF]
    refine iteT (vTx (v := .str g.s) rfl hs (atI_nat (j := 0) rfl) ⟨_, rfl, a, ws, rfl, .inr hS, ?_⟩)
    refine ⟨small (by rw [List.length_cons, List.append_nil, lw]; omega), fun p hp => q _ _ (same_new hp) ?_⟩
    show Dt K _ _ (Tm.form g ks).d
    unfold Tm.d
    rw [Tm.ds_map, List.append_nil]
    exact .tup (SqT.of upd_same) (.cons (.str _) (da.same (same_new hp)))
  | int n =>
    have hv0 := hv
    unfold Tm.d at hv
    obtain ⟨b, x, y, rfl, hs, h1, h2⟩ := Dt.t2 hv
    obtain rfl := h1.s
    refine vTx rfl hs rfl ⟨rfl, _, rfl, sF (by decide +kernel) (vTx rfl hs rfl ⟨rfl, _, rfl, sF (by decide +kernel) (vTx (v := .str "int") rfl hs rfl ⟨aF, _, rfl, .inr (T.forms H), rfl, rfl, _, rfl, ?_⟩)⟩)⟩
    rw [if_neg Bool.false_ne_true, show inV (.str "int") [V.str "get", V.str "set", V.str "plus", V.str "minus"] = false by decide +kernel]
    exact iteF ⟨_, rfl, q _ _ (Same.refl H) hv0⟩
  | name n =>
    have hv0 := hv
    unfold Tm.d at hv
    obtain ⟨b, x, y, rfl, hs, h1, h2⟩ := Dt.t2 hv
    obtain rfl := h1.s
    refine vTx rfl hs rfl ⟨rfl, _, rfl, sF (by decide +kernel) (vTx rfl hs rfl ⟨rfl, _, rfl, sF (by decide +kernel) (vTx (v := .str "name") rfl hs rfl ⟨aF, _, rfl, .inr (T.forms H), rfl, rfl, _, rfl, ?_⟩)⟩)⟩
    rw [if_neg Bool.false_ne_true, show inV (.str "name") [V.str "get", V.str "set", V.str "plus", V.str "minus"] = false by decide +kernel]
    exact iteF ⟨_, rfl, q _ _ (Same.refl H) hv0⟩
  | addr n =>
    have hv0 := hv
    unfold Tm.d at hv
    obtain ⟨b, x, y, rfl, hs, h1, h2⟩ := Dt.t2 hv
    obtain rfl := h1.s
    refine vTx rfl hs rfl ⟨rfl, _, rfl, sF (by decide +kernel) (vTx rfl hs rfl ⟨rfl, _, rfl, sF (by decide +kernel) (vTx (v := .str "addr") rfl hs rfl ⟨aF, _, rfl, .inr (T.forms H), rfl, rfl, _, rfl, ?_⟩)⟩)⟩
    rw [if_neg Bool.false_ne_true, show inV (.str "addr") [V.str "get", V.str "set", V.str "plus", V.str "minus"] = false by decide +kernel]
    exact iteF ⟨_, rfl, q _ _ (Same.refl H) hv0⟩
  | var n =>
    have hv0 := hv
    unfold Tm.d at hv
    obtain ⟨b, x, y, rfl, hs, h1, h2⟩ := Dt.t2 hv
    obtain rfl := h1.s
    refine vTx rfl hs rfl ⟨rfl, _, rfl, sF (by decide +kernel) (vTx rfl hs rfl ⟨rfl, _, rfl, sF (by decide +kernel) (vTx (v := .str "meta") rfl hs rfl ⟨aF, _, rfl, .inr (T.forms H), rfl, rfl, _, rfl, ?_⟩)⟩)⟩
    rw [if_neg Bool.false_ne_true, show inV (.str "meta") [V.str "get", V.str "set", V.str "plus", V.str "minus"] = false by decide +kernel]
    exact iteF ⟨_, rfl, q _ _ (Same.refl H) hv0⟩
end
end PK
namespace PK
open PySem L2
/-! assembled -/
def HdD (h : Tm × Nat) : PyData := .tuple [h.1.d, .int (h.2 : Nat)]
/-- what a row of heads makes, from its end: the terms that stand then, the last one first -/
inductive PreL : List Tm → List (Tm × Nat) → Prop
  | nil : PreL [] []
  | leaf {p : Tm} {rest : List Tm} {hs : List (Tm × Nat)} : PreL rest hs → PreL (p :: rest) ((p, 0) :: hs)
  | node {p : Tm} {ts rest : List Tm} {hs : List (Tm × Nat)} {n : Nat} : PreL (ts ++ rest) hs → ts.length = n → 0 < n → n = p.kids.length → PreL (p.withKids ts :: rest) ((p, n) :: hs)
theorem PreL.one : ∀ {hs : List (Tm × Nat)} {a b : List Tm}, PreL a hs → PreL b hs → a = b
  | [], _, _, .nil, .nil => rfl
  | (p, 0) :: hs, _, _, .leaf h, .leaf h' => by rw [PreL.one h h']
  | (p, 0) :: hs, _, _, .node _ _ h0 _, _ => absurd h0 (Nat.lt_irrefl _)
  | (p, 0) :: hs, _, _, _, .node _ _ h0 _ => absurd h0 (Nat.lt_irrefl _)
  | (p, n + 1) :: hs, _, _, .node h l _ _, .node h' l' _ _ => by
    obtain ⟨e1, e2⟩ := List.append_inj (PreL.one h h') (l.trans l'.symm)
    rw [e1, e2]
theorem PreL.len_le : ∀ {hs : List (Tm × Nat)} {a : List Tm}, PreL a hs → a.length ≤ hs.length
  | _, _, .nil => Nat.le_refl _
  | _, _, .leaf h => by rw [List.length_cons, List.length_cons]; have := h.len_le; omega
  | _, _, .node h l h0 _ => by rw [List.length_cons, List.length_cons]; have := h.len_le; rw [List.length_append] at this; omega
theorem PreL.drop : ∀ {hs : List (Tm × Nat)} {a : List Tm} (k : Nat), PreL a hs → ∃ b, PreL b (hs.drop k)
  | hs, a, 0, h => ⟨a, h⟩
  | _, _, k + 1, .nil => ⟨[], .nil⟩
  | _, _, k + 1, .leaf h => h.drop k
  | _, _, k + 1, .node h _ _ _ => h.drop k
def spAsm (K : PySem.W.Frag) : Sp := fun vs H Q _ => ∃ (a : Addr) (ws : List V) (hs : List (Tm × Nat)) (t : Tm), vs = [.ref a] ∧ SqL K H a ws ∧ DtAll K H ws (hs.map HdD) ∧ PreL [t] hs ∧ hs.length ≤ 1000000 ∧
  ∀ (H' : Hp) (v : V), Same H H' → Dt K H' v t.d → Q v H'
theorem DtAll.rev {K : PySem.W.Frag} {H : Hp} : ∀ {xs : List V} {ds : List PyData}, DtAll K H xs ds → DtAll K H xs.reverse ds.reverse
  | _, _, .nil => .nil
  | _, _, .cons h t => by
    rw [List.reverse_cons, List.reverse_cons]
    exact t.rev.append (.cons h .nil)
section
variable {P : Program} {w : World} {K : PySem.W.Frag} {mg : Str → Option Value} {base : Heap} {aF : Addr}
abbrev s_assembled : Stmt := topS 7
theorem sc_assembled : FnScope ["heads", "made", "part", "many", "parts"] ["heads"] (defScope s_assembled) := ⟨rfl, rfl, rfl, by decide +kernel, rfl, by decide +kernel, by decide +kernel⟩
-- slots: 0:heads 1:made 2:part 3:many 4:parts
theorem ok_asm {f : Addr} {fd : FuncData} (F : Fun K "assembled" "assembled" s_assembled f fd) (T : TxtZ K mg aF) (C_rebuild : C8.Cal P w K mg base 1 "rebuild" (spRebuild K) []) : FnOk P w K mg base CX0 2 f fd ["heads"] (spAsm K) := by
  refine F.ok sc_assembled (fun vs H Q E h => ?_) (fun cdv A outer s H vs Q E hr h => ?_)
  · obtain ⟨a, ws, hs, t, rfl, _⟩ := h
    rfl
  obtain ⟨a, ws, hs, t, rfl, hS, da, hp, hn, q⟩ := h
  refine ⟨_, (pss_cons (ps_set (i := 1) sc_assembled.nd rfl (Or.inl rfl) (pe_lst pa_nil))
    (pss_cons (ps_for PassesOwn.never rfl (RT.pi_revA (by rfl) T.z_reversed (pv 0)) (pg_tup (by rfl) (pgs_cons (pg_name (i := 2) sc_assembled.nd rfl (Or.inl rfl)) (pgs_cons (pg_name (i := 3) sc_assembled.nd rfl (Or.inl rfl)) pgs_nil))) (pss_one (ps_if (pt_truth (pv 3) (by intro _; rfl)) (pss_cons (ps_set (i := 4) sc_assembled.nd rfl (Or.inl rfl) (pe_revL (pe_slice sl_list (pv 1) (po_some (pe_un un_neg (pv 3))) po_none)))
    (pss_cons (L2.PKR.ps_delTail (pv 1) (pe_un un_neg (pv 3)))
    (pss_one (ps_expr (pe_bm PySem.F.plainAttrs_list PySem.F.slot_list_append PySem.F.type_list_append mt_append (pv 1) (pa_cons (C8.pe_c C_rebuild hr (by decide) rfl (pa_cons (pv 2) (pa_cons (pv 4) pa_nil))) pa_nil)))))) (pss_one (ps_expr (pe_bm PySem.F.plainAttrs_list PySem.F.slot_list_append PySem.F.type_list_append mt_append (pv 1) (pa_cons (pv 2) pa_nil)))))))
    (pss_one (ps_ret (pe_ix ix_list (pv 1) pe_int (fun _ _ => rfl)))))), ?_⟩
  have lw : ws.length = hs.length := by rw [da.lenD, List.length_map]
  refine ⟨Nat.zero_le _, fun m hm => ?_⟩
  refine ⟨_, rfl, a, ws, rfl, .inl ⟨Same.seq (same_new hm) hS, for_it walk_rev (fun i σ H' => ∃ (st : List Tm) (mv : List V) (o1 o2 o3 : Option V), σ = [some (.ref a), some (.ref m), o1, o2, o3] ∧ Same H H' ∧ PreL st (hs.drop (hs.length - i)) ∧ H' m = some (.lst mv) ∧ DtAll K H' mv (st.reverse.map Tm.d)) ?_ ?_ ?_ ?_⟩⟩
  · exact ⟨[], [], _, _, _, rfl, same_new hm, by rw [Nat.sub_zero, List.drop_length]; exact .nil, upd_same, .nil⟩
  · rintro i σ H' hi ⟨st, mv, o1, o2, o3, rfl, s, _⟩
    exact s.seq hS
  · rintro i x σ H' H' hi ⟨st, mv, o1, o2, o3, rfl, s, pr, hmv, dm⟩ ⟨rfl, gx⟩
    obtain ⟨d, gd, dx⟩ := DtAll.getX da gx
    rw [List.getElem?_map] at gd
    have ei : ws.length - 1 - i = hs.length - (i + 1) := by omega
    rw [ei] at gd
    cases e0 : hs[hs.length - (i + 1)]? with
    | none => rw [e0] at gd; cases gd
    | some hd =>
    rw [e0] at gd
    cases gd
    obtain ⟨p, n⟩ := hd
    unfold HdD at dx
    obtain ⟨a1, u1, w1, rfl, hs1, j1, j2⟩ := Dt.t2 (dx.same s)
    obtain rfl := j2.i
    obtain ⟨st2, pr2⟩ := hp.drop (hs.length - (i + 1))
    have ed : hs.drop (hs.length - (i + 1)) = (p, n) :: hs.drop (hs.length - i) := by
      have := List.getElem?_eq_some_iff.mp e0
      obtain ⟨hlt, hget⟩ := this
      rw [List.drop_eq_getElem_cons hlt, hget, show hs.length - (i + 1) + 1 = hs.length - i by omega]
    have lmv : mv.length = st.length := by rw [dm.lenD, List.length_map, List.length_reverse]
    have lst := pr.len_le
    rw [List.length_drop] at lst
    refine ⟨a1, _, rfl, hs1, rfl, _, _, rfl, _, _, rfl, rfl, ⟨_, rfl, (n : Int) != 0, rfl, ?_⟩⟩
    rw [ed] at pr2
    cases pr2 with
    | leaf h =>
      refine iteF ⟨_, rfl, .inl ⟨rfl, _, SqL.of hmv⟩, _, rfl, m, mv, _, rfl, rfl, hmv, smallL (by omega), ?_⟩
      obtain rfl := PreL.one h pr
      refine ⟨_, mv ++ [u1], _, _, _, rfl, Same.upd s hm, by rw [ed]; exact .leaf h, upd_same, ?_⟩
      rw [List.reverse_cons, List.map_append]
      exact (dm.append (.cons j1 .nil)).upd hmv
    | node h l h0 lk =>
      rename_i ts rest
      obtain rfl := PreL.one h pr
      rw [List.length_append] at lmv lst
      have en0 : ((n : Int) != 0) = true := by
        rw [bne_iff_ne]; omega
      rw [en0]
      rw [List.reverse_append, List.map_append] at dm
      obtain ⟨y1, y2, rfl, dy1, dy2⟩ := DtAll.splitR dm
      have ly2 : y2.length = n := by rw [dy2.lenD, List.length_map, List.length_reverse]; exact l
      have ecut : cutV (y1 ++ y2) (some (-(n : Int))) none = y2 := by
        unfold cutV
        have : HT.sIx (y1 ++ y2).length 0 (some (-(n : Int))) = y1.length := by
          show (if (-(n : Int)) < 0 then (-(n : Int) + ((y1 ++ y2).length : Int)).toNat else min (-(n : Int)).toNat (y1 ++ y2).length) = _
          rw [if_pos (by omega), List.length_append]
          omega
        rw [this, HT.sIx_none, List.drop_left, List.length_append, Nat.add_sub_cancel_left, List.take_length]
      refine iteT ⟨_, rfl, _, rfl, n, rfl, _, rfl, m, _, rfl, SqL.of hmv, fun p1 hp1 => ⟨p1, _, rfl, SqL.of upd_same, fun p2 hp2 => ?_⟩⟩
      rw [ecut] at hp2 ⊢
      have sp := (same_new (o := .lst y2) hp1).trans (same_new (o := .lst y2.reverse) hp2)
      have hm2 := sp _ _ hmv
      refine ⟨_, rfl, _, rfl, n, rfl, m, _, n, rfl, rfl, hm2, h0, by rw [List.length_append]; omega, ?_⟩
      have ed2 : (y1 ++ y2).take ((y1 ++ y2).length - n) = y1 := by
        rw [List.length_append, ly2, Nat.add_sub_cancel, List.take_left]
      rw [ed2]
      have nm2 : m ≠ p2 := ne_of_none ((same_new (o := .lst y2) hp1) _ _ hmv) hp2
      refine ⟨_, rfl, .inl ⟨rfl, _, SqL.of upd_same⟩, _, rfl, _, rfl, u1, p, p2, y2.reverse, ts, rfl, (j1.same sp).updL hm2, SqL.of (by rw [upd_ne nm2.symm, upd_same]), ?_, by rw [l]; exact lk, by omega, fun H4 v4 s4 d4 => ?_⟩
      · have := (dy2.same sp).rev.upd (us := y1) hm2
        rw [← List.map_reverse, List.reverse_reverse] at this
        exact this
      have hm4 := s4 _ _ (upd_same (H := upd (upd H' p1 (.lst y2)) p2 (.lst y2.reverse)) (a := m) (o := .lst y1))
      have sm : Same H H4 := (Same.upd (s.trans sp) hm).trans s4
      refine ⟨m, y1, _, rfl, rfl, hm4, smallL (by have := dy1.lenD; rw [List.length_map, List.length_reverse] at this; omega), _, y1 ++ [v4], _, _, _, rfl, Same.upd sm hm, by rw [ed]; exact .node h l h0 lk, upd_same, ?_⟩
      rw [List.reverse_cons, List.map_append]
      exact ((((dy1.same sp).upd hm2).same s4).append (.cons d4 .nil)).upd hm4
  · rintro σ H' ⟨st, mv, o1, o2, o3, rfl, s, pr, hmv, dm⟩
    rw [lw, Nat.sub_self, List.drop_zero] at pr
    obtain rfl := PreL.one hp pr
    cases dm with
    | cons d1 dr =>
      cases dr
      exact ⟨_, rfl, m, _, _, _, rfl, rfl, SqL.of hmv, atI_nat (j := 0) rfl, q _ _ s d1⟩
end
end PK
namespace PK
open PySem L2
/-! what filling and translating mean -/
/-- the last pair of a key -/
def lookA {α β : Type} [DecidableEq α] : List (α × β) → α → Option β
  | [], _ => none
  | (k, v) :: r, s => match lookA r s with | some t => some t | none => if k = s then some v else none
theorem lookA_map {α β γ : Type} [DecidableEq α] (f : β → γ) : ∀ (l : List (α × β)) (s : α), lookA (l.map fun p => (p.1, f p.2)) s = (lookA l s).map f
  | [], _ => rfl
  | (k, v) :: r, s => by
    rw [List.map_cons]
    unfold lookA
    rw [lookA_map f r s]
    cases lookA r s with
    | some t => rfl
    | none => by_cases e : k = s <;> simp [e]
theorem lookA_mem {α β : Type} [DecidableEq α] : ∀ {l : List (α × β)} {s : α} {t : β}, lookA l s = some t → (s, t) ∈ l
  | (k, v) :: r, s, t, h => by
    unfold lookA at h
    cases e : lookA r s with
    | some u =>
      rw [e] at h
      cases h
      exact .tail _ (lookA_mem e)
    | none =>
      rw [e] at h
      by_cases ek : k = s
      · subst ek; simp at h; subst h; exact .head _
      · simp [ek] at h
theorem lookA_has {α β : Type} [DecidableEq α] : ∀ {l : List (α × β)} {s : α}, s ∈ l.map Prod.fst → ∃ t, lookA l s = some t
  | (k, v) :: r, s, h => by
    unfold lookA
    cases e : lookA r s with
    | some u => exact ⟨u, rfl⟩
    | none =>
      rcases List.mem_cons.mp h with h | h
      · exact ⟨v, by simp [h]⟩
      · obtain ⟨t, e2⟩ := lookA_has h
        rw [e] at e2; cases e2
abbrev Tab := List (Str × Tm)
def Tm.filK (tab : Tab) (t : Tm) (ks : List Tm) : Tm := match t with
  | .var s => (lookA tab s).getD (.var s)
  | t => t.withKids ks
def Tm.fill (tab : Tab) (t : Tm) : Tm := t.filK tab (t.kids.attach.map fun k => k.1.fill tab)
termination_by sizeOf t
decreasing_by exact Tm.kid_lt k.2
theorem Tm.fill_eq (tab : Tab) (t : Tm) : t.fill tab = t.filK tab (t.kids.map (Tm.fill tab)) := by
  rw [Tm.fill, List.attach_map_val (f := Tm.fill tab)]
structure Rw where
  nm : Str
  ps : List Str
  t : Tm
def Rw.d (r : Rw) : PyData := .tuple [.str r.nm, .tuple (r.ps.map .str), r.t.d]
def rowOf (R : List Rw) (c : Str) : Option Rw := R.find? fun r => decide (r.nm = c)
theorem rowOf_mem {R : List Rw} (hn : (R.map Rw.nm).Nodup) {r : Rw} (h : r ∈ R) : rowOf R r.nm = some r := by
  unfold rowOf
  induction R with
  | nil => cases h
  | cons x R ih =>
    rw [List.map_cons, List.nodup_cons] at hn
    rcases List.mem_cons.mp h with rfl | h
    · rw [List.find?_cons_of_pos (by simp)]
    · have : ¬ x.nm = r.nm := fun e => hn.1 (by rw [e]; exact List.mem_map.mpr ⟨r, h, rfl⟩)
      rw [List.find?_cons_of_neg (by simp [this]), ih hn.2 h]
def Tm.trK (R : List Rw) (t : Tm) (ks : List Tm) : Tm := match t with
  | .node c ts => (match rowOf R c with | some r => r.t.fill (r.ps.zip ks) | none => .node c ks)
  | t => t.withKids ks
def Tm.trans (R : List Rw) (t : Tm) : Tm := t.trK R (t.kids.attach.map fun k => k.1.trans R)
termination_by sizeOf t
decreasing_by exact Tm.kid_lt k.2
theorem Tm.trans_eq (R : List Rw) (t : Tm) : t.trans R = t.trK R (t.kids.map (Tm.trans R)) := by
  rw [Tm.trans, List.attach_map_val (f := Tm.trans R)]
def trTab (R : List Rw) (tab : Tab) : Tab := tab.map fun p => (p.1, p.2.trans R)
theorem trTab_zip (R : List Rw) : ∀ (ps : List Str) (ts : List Tm), trTab R (ps.zip ts) = ps.zip (ts.map (Tm.trans R))
  | [], _ => rfl
  | _ :: _, [] => rfl
  | p :: ps, t :: ts => by
    rw [List.zip_cons_cons, List.map_cons, List.zip_cons_cons, ← trTab_zip R ps ts]; rfl
/-! height, parts -/
def Tm.ht (t : Tm) : Nat := 1 + (t.kids.attach.map fun k => k.1.ht).foldr max 0
termination_by sizeOf t
decreasing_by exact Tm.kid_lt k.2
theorem Tm.ht_eq (t : Tm) : t.ht = 1 + (t.kids.map Tm.ht).foldr max 0 := by
  rw [Tm.ht, List.attach_map_val (f := Tm.ht)]
theorem fmax_le {n : Nat} : ∀ {l : List Nat}, (∀ x ∈ l, x ≤ n) → l.foldr max 0 ≤ n
  | [], _ => Nat.zero_le _
  | x :: l, h => by
    have h1 := h x List.mem_cons_self
    have h2 := fmax_le (n := n) (l := l) fun y hy => h y (List.mem_cons_of_mem _ hy)
    rw [List.foldr_cons]
    omega
theorem le_fmax : ∀ {l : List Nat} {x : Nat}, x ∈ l → x ≤ l.foldr max 0
  | y :: l, x, h => by
    rw [List.foldr_cons]
    rcases List.mem_cons.mp h with rfl | h
    · omega
    · have := le_fmax h; omega
theorem Tm.ht_kid {t k : Tm} (h : k ∈ t.kids) : k.ht + 1 ≤ t.ht := by
  have := le_fmax (List.mem_map.mpr ⟨k, h, rfl⟩ : k.ht ∈ t.kids.map Tm.ht)
  rw [Tm.ht_eq t]; omega
theorem Tm.ht_le {t : Tm} {n : Nat} (h : ∀ k ∈ t.kids, k.ht ≤ n) : t.ht ≤ n + 1 := by
  rw [Tm.ht_eq t]
  have := fmax_le (n := n) (l := t.kids.map Tm.ht) fun x hx => by
    obtain ⟨k, hk, rfl⟩ := List.mem_map.mp hx
    exact h k hk
  omega
theorem Tm.ht_pos (t : Tm) : 1 ≤ t.ht := by rw [Tm.ht_eq t]; omega
theorem zip_snd : ∀ {es : List (Str × Tm)} {ks : List Tm}, ks.length = es.length → List.zipWith (fun (e : Str × Tm) (k : Tm) => (Prod.snd ((e.1, k) : Str × Tm))) es ks = ks
  | [], [], _ => rfl
  | [], _ :: _, h => nomatch h
  | _ :: _, [], h => nomatch h
  | e :: es, k :: ks, h => by rw [List.zipWith_cons_cons, zip_snd (Nat.succ.inj h)]
theorem Tm.kids_with {t : Tm} {ks : List Tm} (h : ks.length = t.kids.length) : (t.withKids ks).kids = ks := by
  cases t with
  | node c ts => rfl
  | form c ts => rfl
  | map es =>
    have h : ks.length = es.length := by
      have : (Tm.map es).kids.length = es.length := List.length_map ..
      rw [this] at h; exact h
    show (List.zipWith (fun e k => (e.1, k)) es ks).map Prod.snd = ks
    rw [List.map_zipWith]
    exact zip_snd h
  | int _ => exact (List.length_eq_zero_iff.mp h).symm
  | name _ => exact (List.length_eq_zero_iff.mp h).symm
  | addr _ => exact (List.length_eq_zero_iff.mp h).symm
  | var _ => exact (List.length_eq_zero_iff.mp h).symm
theorem Tm.with_nil {t : Tm} (h : t.kids = []) : t.withKids [] = t := by
  cases t with
  | node c ts => have h : ts = [] := h; rw [h]; rfl
  | form c ts => have h : ts = [] := h; rw [h]; rfl
  | map es =>
    have : es = [] := List.map_eq_nil_iff.mp h
    rw [this]; rfl
  | _ => rfl
theorem Tm.size_pos (t : Tm) : 1 ≤ t.size := by rw [Tm.size_eq t]; omega
/-- a property of all parts -/
inductive Al (p : Tm → Prop) : Tm → Prop
  | mk {t : Tm} : p t → (∀ k ∈ t.kids, Al p k) → Al p t
theorem Al.at_ {p : Tm → Prop} {t : Tm} (h : Al p t) : p t := by cases h; assumption
theorem Al.kid {p : Tm → Prop} {t k : Tm} (h : Al p t) (hk : k ∈ t.kids) : Al p k := by cases h with | mk _ h => exact h k hk
def okN (R : List Rw) (t : Tm) : Prop := t.kids.length ≤ 1000 ∧ ∀ c ts, t = .node c ts → ∃ r ∈ R, r.nm = c ∧ r.ps.length = ts.length
def okT (R : List Rw) : Tm → Prop := Al (okN R)
def okP (ps : List Str) : Tm → Prop := Al fun t => t.kids.length ≤ 1000 ∧ ∀ s, t = .var s → s ∈ ps
structure okR (R : List Rw) : Prop where
  nd : (R.map Rw.nm).Nodup
  len : R.length ≤ 1000
  ar : ∀ r ∈ R, r.ps.length ≤ 1000
  p : ∀ r ∈ R, okP r.ps r.t
  node : ∀ r ∈ R, ∃ c ts, r.t = .node c ts
/-- what waits to be translated -/
structure Itm where
  part : Tm
  b : Option Tab
  dep : Nat
def Itm.f (R : List Rw) (it : Itm) (t : Tm) : Tm := match it.b with
  | none => t.trans R
  | some tab => t.fill (trTab R tab)
def Itm.res (R : List Rw) (it : Itm) : Tm := it.f R it.part
def Itm.ok (R : List Rw) (it : Itm) : Prop := match it.b with
  | none => okT R it.part
  | some tab => okP (tab.map Prod.fst) it.part ∧ (∀ p ∈ tab, okT R p.2)
/-- a metavariable that stands for something -/
def Itm.s1 (it : Itm) : Itm := match it.b, it.part with
  | some tab, .var s => (match lookA tab s with | some t => ⟨t, none, it.dep⟩ | none => it)
  | _, _ => it
theorem Itm.s1_dep (it : Itm) : it.s1.dep = it.dep := by
  unfold Itm.s1
  split
  · split <;> rfl
  · rfl
theorem Itm.s1_res {R : List Rw} (it : Itm) : it.s1.res R = it.res R := by
  obtain ⟨part, b, dep⟩ := it
  unfold Itm.s1
  dsimp only
  split
  · rename_i tab s
    cases e : lookA tab s with
    | none => rfl
    | some t =>
      show t.trans R = (Tm.var s).fill (trTab R tab)
      rw [Tm.fill_eq]
      show _ = (lookA (trTab R tab) s).getD (.var s)
      unfold trTab
      rw [lookA_map, e]; rfl
  · rfl
theorem Itm.s1_ok {R : List Rw} {it : Itm} (h : it.ok R) : it.s1.ok R := by
  obtain ⟨part, b, dep⟩ := it
  unfold Itm.s1
  dsimp only
  split
  · rename_i tab s
    cases e : lookA tab s with
    | none => exact h
    | some t => exact h.2 (s, t) (lookA_mem e)
  · exact h
theorem Itm.s1_var {R : List Rw} {it : Itm} (h : it.ok R) : it.s1.b ≠ none → ∀ s, it.s1.part ≠ .var s := by
  obtain ⟨part, b, dep⟩ := it
  unfold Itm.s1
  dsimp only
  split
  · rename_i tab s
    obtain ⟨t, e⟩ := lookA_has (h.1.at_.2 s rfl)
    rw [e]
    exact fun h => absurd rfl h
  · rename_i hx
    intro hb s e
    dsimp only at hb e
    cases b with
    | none => exact hb rfl
    | some tab => exact hx tab s rfl e
/-- a node of the source -/
def Itm.s2 (R : List Rw) (it : Itm) : Itm := match it.b, it.part with
  | none, .node c ts => (match rowOf R c with | some r => ⟨r.t, some (r.ps.zip ts), it.dep⟩ | none => it)
  | _, _ => it
theorem Itm.s2_dep {R : List Rw} (it : Itm) : (it.s2 R).dep = it.dep := by
  unfold Itm.s2
  split
  · split <;> rfl
  · rfl
theorem Itm.s2_res {R : List Rw} (it : Itm) : (it.s2 R).res R = it.res R := by
  obtain ⟨part, b, dep⟩ := it
  unfold Itm.s2
  dsimp only
  split
  · rename_i c ts
    cases e : rowOf R c with
    | none => rfl
    | some r =>
      show r.t.fill (trTab R (r.ps.zip ts)) = (Tm.node c ts).trans R
      rw [Tm.trans_eq, trTab_zip]
      unfold Tm.trK
      dsimp only
      rw [e]; rfl
  · rfl
theorem Itm.s2_ok {R : List Rw} (O : okR R) {it : Itm} (h : it.ok R) : (it.s2 R).ok R := by
  obtain ⟨part, b, dep⟩ := it
  unfold Itm.s2
  dsimp only
  split
  · rename_i c ts
    obtain ⟨r, hr, rfl, hl⟩ := (show okT R (.node c ts) from h).at_.2 c ts rfl
    rw [rowOf_mem O.nd hr]
    refine ⟨?_, fun p hp => ?_⟩
    · rw [List.map_fst_zip (by omega)]; exact O.p r hr
    · exact (show okT R (.node r.nm ts) from h).kid (List.of_mem_zip hp).2
  · exact h
/-- what both steps lead to -/
structure Itm.can (R : List Rw) (it : Itm) : Prop where
  ok : it.ok R
  v : it.b ≠ none → ∀ s, it.part ≠ .var s
  n : it.b = none → ∀ c ts, it.part ≠ .node c ts
theorem Itm.s2_can {R : List Rw} (O : okR R) {it : Itm} (h : it.ok R) (hv : it.b ≠ none → ∀ s, it.part ≠ .var s) : (it.s2 R).can R := by
  refine ⟨Itm.s2_ok O h, ?_, ?_⟩
  · obtain ⟨part, b, dep⟩ := it
    unfold Itm.s2
    dsimp only
    split
    · rename_i c ts
      obtain ⟨r, hr, rfl, hl⟩ := (show okT R (.node c ts) from h).at_.2 c ts rfl
      rw [rowOf_mem O.nd hr]
      obtain ⟨c', ts', e⟩ := O.node r hr
      intro _ s e2
      rw [show r.t = Tm.var s from e2] at e
      cases e
    · exact hv
  · obtain ⟨part, b, dep⟩ := it
    unfold Itm.s2
    dsimp only
    split
    · rename_i c ts
      obtain ⟨r, hr, rfl, hl⟩ := (show okT R (.node c ts) from h).at_.2 c ts rfl
      rw [rowOf_mem O.nd hr]
      intro e; cases e
    · rename_i hx
      intro hb c ts e
      exact hx c ts hb e
theorem Itm.can_len {R : List Rw} {it : Itm} (h : it.can R) : it.part.kids.length ≤ 1000 := by
  obtain ⟨part, b, dep⟩ := it
  cases b with
  | none => exact (show okT R part from h.ok).at_.1
  | some tab => exact (h.ok.1).at_.1
theorem Itm.can_kid {R : List Rw} {it : Itm} (h : it.can R) {k : Tm} (hk : k ∈ it.part.kids) : (Itm.mk k it.b (it.dep + 1)).ok R := by
  obtain ⟨part, b, dep⟩ := it
  cases b with
  | none => exact (show okT R part from h.ok).kid hk
  | some tab => exact ⟨h.ok.1.kid hk, h.ok.2⟩
theorem Itm.can_res {R : List Rw} {it : Itm} (h : it.can R) : it.res R = it.part.withKids (it.part.kids.map (it.f R)) := by
  obtain ⟨part, b, dep⟩ := it
  cases b with
  | none =>
    show part.trans R = part.withKids (part.kids.map (Tm.trans R))
    rw [Tm.trans_eq]
    cases part with
    | node c ts => exact absurd rfl (h.n rfl c ts)
    | _ => rfl
  | some tab =>
    show part.fill (trTab R tab) = part.withKids (part.kids.map (Tm.fill (trTab R tab)))
    rw [Tm.fill_eq]
    cases part with
    | var s => exact absurd rfl (h.v (by simp) s)
    | _ => rfl
theorem Itm.can_size {R : List Rw} {it : Itm} (h : it.can R) : (it.res R).size = 1 + ((it.part.kids.map (it.f R)).map Tm.size).sum := by
  rw [it.can_res h, Tm.size_eq, Tm.kids_with (by rw [List.length_map])]
theorem Itm.can_ht {R : List Rw} {it : Itm} (h : it.can R) {k : Tm} (hk : k ∈ it.part.kids) : (it.f R k).ht + 1 ≤ (it.res R).ht := by
  refine Tm.ht_kid ?_
  rw [it.can_res h, Tm.kids_with (by rw [List.length_map])]
  exact List.mem_map.mpr ⟨k, hk, rfl⟩
/-- one head more -/
theorem Itm.can_pre {R : List Rw} {it : Itm} (h : it.can R) {rest : List Tm} {hs : List (Tm × Nat)} (p : PreL (it.part.kids.map (it.f R) ++ rest) hs) : PreL (it.res R :: rest) ((it.part, it.part.kids.length) :: hs) := by
  rw [it.can_res h]
  by_cases e : it.part.kids = []
  · rw [e] at p ⊢
    rw [List.map_nil] at p ⊢
    rw [Tm.with_nil e]
    exact .leaf p
  · exact .node p (by rw [List.length_map]) (List.length_pos_iff.mpr e) rfl
def totI (R : List Rw) (its : List Itm) : Nat := (its.map fun i => (i.res R).size).sum
end PK
namespace PK
open PySem L2
/-! templates_of; dicts of data -/
theorem lookA_cons {α β : Type} [DecidableEq α] (k : α) (v : β) (r : List (α × β)) (s : α) : lookA ((k, v) :: r) s = match lookA r s with | some t => some t | none => if k = s then some v else none := rfl
theorem look_none {β γ : Type} : ∀ {ps : List Str} {ys : List β} {ds : List γ} {s : Str}, ys.length = ds.length → lookA (ps.zip ds) s = none → lookA ((ps.map (Sum.inr : Str → Key)).zip ys) (.inr s) = none
  | [], _, _, _, _, _ => rfl
  | _ :: _, [], _, _, _, _ => rfl
  | _ :: _, _ :: _, [], _, h, _ => nomatch h
  | q :: ps, y :: ys, d :: ds, s, h, e => by
    rw [List.zip_cons_cons, lookA_cons] at e
    rw [List.map_cons, List.zip_cons_cons, lookA_cons]
    cases e3 : lookA (ps.zip ds) s with
    | some _ => rw [e3] at e; cases e
    | none =>
      rw [e3] at e
      rw [look_none (Nat.succ.inj h) e3]
      by_cases eq : q = s
      · simp [eq] at e
      · simp [eq]
theorem valV_mergeK : ∀ (more kvs : List (Key × V)) (k : Key), valV (mergeK kvs more) k = match lookA more k with | some v => some v | none => valV kvs k
  | [], kvs, k => rfl
  | (j, v) :: more, kvs, k => by
    show valV (mergeK (putK kvs j v) more) k = _
    rw [valV_mergeK more (putK kvs j v) k, valV_put]
    rw [lookA_cons]
    cases e : lookA more k with
    | some u => rfl
    | none =>
      by_cases h : j = k
      · subst h; simp
      · have h' : ¬ k = j := fun z => h z.symm
        simp [h, h']
/-- of the words of the row the dict tells the last one's data -/
def BindR (K : PySem.W.Frag) (H : Hp) (kvs : List (Key × V)) (tab : List (Str × PyData)) : Prop := ∀ s d, lookA tab s = some d → ∃ v, valV kvs (.inr s) = some v ∧ Dt K H v d
theorem BindR.mono {K : PySem.W.Frag} {H H' : Hp} {kvs : List (Key × V)} {tab : List (Str × PyData)} (h : BindR K H kvs tab) (k : ∀ v d, Dt K H v d → Dt K H' v d) : BindR K H' kvs tab := fun s d e =>
  let ⟨v, e1, e2⟩ := h s d e
  ⟨v, e1, k _ _ e2⟩
theorem look_zip {K : PySem.W.Frag} {H : Hp} : ∀ {ps : List Str} {ys : List V} {ds : List PyData}, DtAll K H ys ds → ∀ s d, lookA (ps.zip ds) s = some d → ∃ v, lookA ((ps.map (Sum.inr : Str → Key)).zip ys) (.inr s) = some v ∧ Dt K H v d
  | [], _, _, _, s, d, h => by cases h
  | p :: ps, _, _, .nil, s, d, h => by cases h
  | p :: ps, y :: ys, d0 :: ds, .cons h0 ht, s, d, h => by
    rw [List.zip_cons_cons] at h
    rw [List.map_cons, List.zip_cons_cons]
    rw [lookA_cons] at h ⊢
    have ih := look_zip (ps := ps) ht s
    cases e : lookA (ps.zip ds) s with
    | some u =>
      rw [e] at h
      cases h
      obtain ⟨v, e1, e2⟩ := ih d e
      rw [e1]
      exact ⟨v, rfl, e2⟩
    | none =>
      rw [e] at h
      by_cases ep : p = s
      · subst ep
        simp at h
        subst h
        rw [look_none ht.lenD e]
        exact ⟨y, by simp, h0⟩
      · simp [ep] at h
theorem BindR.zip {K : PySem.W.Frag} {H : Hp} {ps : List Str} {ys : List V} {ds : List PyData} (h : DtAll K H ys ds) : BindR K H (mergeK [] ((ps.map (Sum.inr : Str → Key)).zip ys)) (ps.zip ds) := fun s d e => by
  obtain ⟨v, e1, e2⟩ := look_zip h s d e
  exact ⟨v, by rw [valV_mergeK, e1], e2⟩
/-- the dict of the templates -/
def TplR (K : PySem.W.Frag) (H : Hp) (kvs : List (Key × V)) (R : List Rw) : Prop := ∀ r ∈ R, ∃ v, valV kvs (.inr r.nm) = some v ∧ Dt K H v (.tuple [.tuple (r.ps.map .str), r.t.d])
theorem TplR.mono {K : PySem.W.Frag} {H H' : Hp} {kvs : List (Key × V)} {R : List Rw} (h : TplR K H kvs R) (k : ∀ v d, Dt K H v d → Dt K H' v d) : TplR K H' kvs R := fun r hr =>
  let ⟨v, e1, e2⟩ := h r hr
  ⟨v, e1, k _ _ e2⟩
def spTpl (K : PySem.W.Frag) : Sp := fun vs H Q _ => ∃ (v : V) (R : List Rw), vs = [v] ∧ Dt K H v (.tuple (R.map Rw.d)) ∧ (R.map Rw.nm).Nodup ∧ R.length ≤ 1000 ∧
  ∀ (H' : Hp) (p : Addr) (kvs : List (Key × V)), Same H H' → H' p = some (.dK kvs) → TplR K H' kvs R → Q (.ref p) H'
section
variable {P : Program} {w : World} {K : PySem.W.Frag} {mg : Str → Option Value} {base : Heap} {aF : Addr}
abbrev s_templates_of : Stmt := topS 11
theorem sc_templates_of : FnScope ["rows", "name", "parameters", "template"] ["rows"] (defScope s_templates_of) := ⟨rfl, rfl, rfl, by decide +kernel, rfl, by decide +kernel, by decide +kernel⟩
-- slots: 0:rows 1:name(comp) 2:parameters(comp) 3:template(comp)
theorem ok_tpl {f : Addr} {fd : FuncData} (F : Fun K "templates_of" "templates_of" s_templates_of f fd) (T : TxtZ K mg aF) : FnOk P w K mg base CX0 1 f fd ["rows"] (spTpl K) := by
  refine F.ok sc_templates_of (fun vs H Q E h => ?_) (fun cdv A outer s H vs Q E hr h => ?_)
  · obtain ⟨v, R, rfl, _⟩ := h
    rfl
  obtain ⟨v, R, rfl, hv, nd, hl, q⟩ := h
  refine ⟨_, (pss_one (ps_ret (pe_dc (own := [("name", 1), ("parameters", 2), ("template", 3)]) (g := (gTup K 3 (gCons (gName 1) (gCons (gName 2) (gCons (gName 3) gNil))))) (tt := tYes) (by rfl) sc_templates_of.nd (PKR.pi_or (pi_list (pv 0)) (pi_tup (pv 0))) (blkOk_by (N := ["rows", "name", "parameters", "template"]) (sc := defScope s_templates_of) (by decide +kernel)) (fun _ _ _ _ _ => (pg_tup (by rfl) (pgs_cons (pg_name (i := 1) sc_templates_of.nd rfl (Or.inl rfl)) (pgs_cons (pg_name (i := 2) sc_templates_of.nd rfl (Or.inl rfl)) (pgs_cons (pg_name (i := 3) sc_templates_of.nd rfl (Or.inl rfl)) pgs_nil))))) (fun _ _ _ _ _ => pts_nil) (fun _ _ _ _ _ => (pv 1)) (fun _ _ _ _ _ => (pe_tup (pa_cons (pv 2) (pa_cons (pv 3) pa_nil))))))), ?_⟩
  obtain ⟨a, ws, rfl, hs, da⟩ := Dt.tn hv
  have lw : ws.length = R.length := by rw [da.lenD, List.length_map]
  refine .inr ⟨_, rfl, a, rfl, ⟨_, hs⟩, fun D hD => dc_tup (K := K) (a := a) (xs := ws) (fun i H' => ∃ kvs, Same H H' ∧ H' D = some (.dK kvs) ∧ kvs.length ≤ i ∧ ∀ r ∈ R.take i, ∃ v, valV kvs (.inr r.nm) = some v ∧ Dt K H' v (.tuple [.tuple (r.ps.map .str), r.t.d])) ?_ ?_ ?_ ?_⟩
  · exact ⟨[], same_new hD, upd_same, Nat.zero_le _, fun r hr => by rw [List.take_zero] at hr; cases hr⟩
  · rintro i H' hi ⟨_, s, _⟩
    exact Same.seqT s hs
  · rintro i x H' gx ⟨kvs, s, hd, lk, hk⟩
    obtain ⟨d, gd, dx⟩ := DtAll.getX da gx
    rw [List.getElem?_map] at gd
    cases e0 : R[i]? with
    | none => rw [e0] at gd; cases gd
    | some r =>
    rw [e0] at gd
    cases gd
    unfold Rw.d at dx
    obtain ⟨b, x1, y1, z1, rfl, hb, h1, h2, h3⟩ := Dt.t3 (dx.same s)
    obtain rfl := h1.s
    have il : i < R.length := (List.getElem?_eq_some_iff.mp e0).1
    refine ⟨b, _, rfl, hb, rfl, _, _, rfl, _, _, rfl, _, _, rfl, rfl, rfl, ?_⟩
    refine yes_ ⟨_, rfl, _, rfl, _, rfl, small (by show 2 ≤ _; decide), fun p hp => ?_⟩
    have nD : D ≠ p := ne_of_none hd hp
    have hd2 : (upd H' p (.tup [y1, z1])) D = some (.dK kvs) := by rw [upd_ne nD]; exact hd
    have lz := length_putK kvs (.inr r.nm) (V.ref p)
    have dn : Dt K (upd H' p (.tup [y1, z1])) (.ref p) (.tuple [.tuple (r.ps.map .str), r.t.d]) := Dt.mk2 hp h2 h3
    refine ⟨kvs, .inr r.nm, rfl, hd2, smallL (by omega), _, Same.upd (s.trans (same_new hp)) hD, upd_same, by omega, fun r2 hr2 => ?_⟩
    rw [valV_put]
    rw [List.take_add_one, e0] at hr2
    rcases List.mem_append.mp hr2 with h | h
    · obtain ⟨v2, k1, k2⟩ := hk r2 h
      have nn : r2.nm ≠ r.nm := by
        intro e
        obtain ⟨j, hj, ej⟩ := List.getElem_of_mem h
        rw [List.length_take] at hj
        rw [List.getElem_take] at ej
        have h1 : (R.map Rw.nm)[j]? = some r2.nm := by rw [List.getElem?_map, List.getElem?_eq_getElem (by omega), ej]; rfl
        have h2 : (R.map Rw.nm)[i]? = some r.nm := by rw [List.getElem?_map, e0]; rfl
        have : j = i := (List.getElem?_inj (by rw [List.length_map]; omega) nd).mp (by rw [h1, h2, e])
        omega
      rw [if_neg (fun z => nn (Sum.inr.inj z))]
      exact ⟨v2, k1, Dt.mono (fun _ _ z => seqT_updK z hd2) _ _ (k2.new hp)⟩
    · obtain rfl : r2 = r := by simpa using h
      rw [if_pos rfl]
      exact ⟨_, rfl, Dt.mono (fun _ _ z => seqT_updK z hd2) _ _ dn⟩
  · rintro H' ⟨kvs, s, hd, _, hk⟩
    rw [lw, List.take_length] at hk
    exact q _ D kvs s hd hk
end
end PK
namespace PK
open PySem L2
/-! translate -/
section
variable {X : Cx} {x : Str} {p : Pos}
theorem pe_glI {n : Int} (hg : Gl X x) (h : ∃ t, X.mg x = some (.int n t)) (hd : (x == ("__debug__" : Str)) = false := by decide) : PE X (.Name x p) (tC (.int n)) := by
  obtain ⟨t, h⟩ := h
  exact pe_glob hg h ⟨_, rfl⟩ hd
end
structure TxtX (K : PySem.W.Frag) (mg : Str → Option Value) (aF CL : Addr) : Prop extends TxtZ K mg aF where
  g_MP : ∃ t, mg "MOST_PARTS" = some (.int 4000 t)
  g_MN : ∃ t, mg "MOST_NESTED" = some (.int 200 t)
  gL : mg "TooLarge" = some (.ref CL)
  xL : PySem.W.excIn K CL [.type "ValueError", .type "Exception", .type "BaseException", .type "object"] "ValueError.__new__" = true
  kL : PySem.W.keepIn K (.ref CL) = true
  bL : PySem.W.subIn K (.ref CL) (.type "BaseException") = some true
  tL : PySem.W.typeIn K (.ref CL) = some (.type "type")
  eL : PySem.W.exmOne K (.ref CL) (.ref CL) = some true
/-- what stands in waiting -/
def BvR (K : PySem.W.Frag) (H : Hp) (bv : V) : Option Tab → Prop
  | none => bv = .non
  | some tab => ∃ (p : Addr) (kvs : List (Key × V)), bv = .ref p ∧ H p = some (.dK kvs) ∧ BindR K H kvs (tab.map fun q => (q.1, q.2.d))
structure ItR (K : PySem.W.Frag) (H : Hp) (x : V) (it : Itm) : Prop where
  mk :: (out : ∃ (a : Addr) (pv bv : V), x = .ref a ∧ SqT K H a [pv, bv, .int (it.dep : Nat)] ∧ Dt K H pv it.part.d ∧ BvR K H bv it.b)
theorem BvR.same {K : PySem.W.Frag} {H H' : Hp} {bv : V} {b : Option Tab} (h : BvR K H bv b) (s : Same H H') : BvR K H' bv b := by
  cases b with
  | none => exact h
  | some tab =>
    obtain ⟨p, kvs, e, h1, h2⟩ := h
    exact ⟨p, kvs, e, s _ _ h1, h2.mono fun _ _ z => z.same s⟩
theorem BvR.updL {K : PySem.W.Frag} {H : Hp} {bv : V} {b : Option Tab} {D : Addr} {vs us : List V} (h : BvR K H bv b) (hD : H D = some (.lst vs)) : BvR K (upd H D (.lst us)) bv b := by
  cases b with
  | none => exact h
  | some tab =>
    obtain ⟨p, kvs, e, h1, h2⟩ := h
    exact ⟨p, kvs, e, by rw [upd_ne (fun z => by rw [z, hD] at h1; cases h1)]; exact h1, h2.mono fun _ _ z => z.updL hD⟩
theorem ItR.same {K : PySem.W.Frag} {H H' : Hp} {x : V} {it : Itm} (h : ItR K H x it) (s : Same H H') : ItR K H' x it := by
  obtain ⟨a, pv, bv, e, h1, h2, h3⟩ := h.out
  exact ⟨a, pv, bv, e, Same.seqT s h1, h2.same s, h3.same s⟩
theorem ItR.updL {K : PySem.W.Frag} {H : Hp} {x : V} {it : Itm} {D : Addr} {vs us : List V} (h : ItR K H x it) (hD : H D = some (.lst vs)) : ItR K (upd H D (.lst us)) x it := by
  obtain ⟨a, pv, bv, e, h1, h2, h3⟩ := h.out
  exact ⟨a, pv, bv, e, seqT_upd h1 hD, h2.updL hD, h3.updL hD⟩
inductive ItAll (K : PySem.W.Frag) (H : Hp) : List V → List Itm → Prop
  | nil : ItAll K H [] []
  | cons {x : V} {it : Itm} {xs : List V} {its : List Itm} : ItR K H x it → ItAll K H xs its → ItAll K H (x :: xs) (it :: its)
theorem ItAll.map {K : PySem.W.Frag} {H H' : Hp} : ∀ {xs : List V} {its : List Itm}, ItAll K H xs its → (∀ x it, ItR K H x it → ItR K H' x it) → ItAll K H' xs its
  | _, _, .nil, _ => .nil
  | _, _, .cons h t, k => .cons (k _ _ h) (t.map k)
theorem ItAll.len {K : PySem.W.Frag} {H : Hp} : ∀ {xs : List V} {its : List Itm}, ItAll K H xs its → xs.length = its.length
  | _, _, .nil => rfl
  | _, _, .cons _ t => by rw [List.length_cons, List.length_cons, t.len]
theorem ItAll.app {K : PySem.W.Frag} {H : Hp} : ∀ {xs ys : List V} {its jts : List Itm}, ItAll K H xs its → ItAll K H ys jts → ItAll K H (xs ++ ys) (its ++ jts)
  | _, _, _, _, .nil, h => h
  | _, _, _, _, .cons a t, h => .cons a (t.app h)
theorem ItAll.split {K : PySem.W.Frag} {H : Hp} : ∀ {xs : List V} {its jts : List Itm}, ItAll K H xs (its ++ jts) → ∃ ys zs, xs = ys ++ zs ∧ ItAll K H ys its ∧ ItAll K H zs jts
  | xs, [], _, h => ⟨[], xs, rfl, .nil, h⟩
  | _, it :: its, jts, .cons a t => by
    obtain ⟨ys, zs, rfl, h1, h2⟩ := ItAll.split (its := its) t
    exact ⟨_ :: ys, zs, rfl, .cons a h1, h2⟩
theorem Tm.of_var {t : Tm} (e : t.hd = "meta") : ∃ s, t = .var s := by
  cases t with
  | var s => exact ⟨s, rfl⟩
  | form f _ => exact absurd e (show f.s ≠ "meta" by cases f <;> decide +kernel)
  | int _ => exact absurd e (show ("int" : Str) ≠ "meta" by decide +kernel)
  | name _ => exact absurd e (show ("name" : Str) ≠ "meta" by decide +kernel)
  | addr _ => exact absurd e (show ("addr" : Str) ≠ "meta" by decide +kernel)
  | node _ _ => exact absurd e (show ("node" : Str) ≠ "meta" by decide +kernel)
  | map _ => exact absurd e (show ("map" : Str) ≠ "meta" by decide +kernel)
theorem Tm.of_node {t : Tm} (e : t.hd = "node") : ∃ c ts, t = .node c ts := by
  cases t with
  | node c ts => exact ⟨c, ts, rfl⟩
  | form f _ => exact absurd e f.ne_node
  | int _ => exact absurd e (show ("int" : Str) ≠ "node" by decide +kernel)
  | name _ => exact absurd e (show ("name" : Str) ≠ "node" by decide +kernel)
  | addr _ => exact absurd e (show ("addr" : Str) ≠ "node" by decide +kernel)
  | var _ => exact absurd e (show ("meta" : Str) ≠ "node" by decide +kernel)
  | map _ => exact absurd e (show ("map" : Str) ≠ "node" by decide +kernel)
theorem Itm.s1_none {it : Itm} (h : it.b = none) : it.s1 = it := by
  obtain ⟨part, b, dep⟩ := it
  have h : b = none := h
  subst h
  unfold Itm.s1; rfl
theorem Itm.s1_other {it : Itm} (h : ∀ s, it.part ≠ .var s) : it.s1 = it := by
  obtain ⟨part, b, dep⟩ := it
  unfold Itm.s1
  dsimp only
  split
  · exact absurd rfl (h _)
  · rfl
theorem Itm.s1_at {it : Itm} {tab : Tab} {s : Str} {t : Tm} (h : it.b = some tab) (e : it.part = .var s) (l : lookA tab s = some t) : it.s1 = ⟨t, none, it.dep⟩ := by
  obtain ⟨part, b, dep⟩ := it
  have h : b = some tab := h
  have e : part = .var s := e
  subst h e
  unfold Itm.s1
  dsimp only
  rw [l]
theorem Itm.s2_some {R : List Rw} {it : Itm} {tab : Tab} (h : it.b = some tab) : it.s2 R = it := by
  obtain ⟨part, b, dep⟩ := it
  have h : b = some tab := h
  subst h
  unfold Itm.s2; rfl
theorem Itm.s2_other {R : List Rw} {it : Itm} (h : ∀ c ts, it.part ≠ .node c ts) : it.s2 R = it := by
  obtain ⟨part, b, dep⟩ := it
  unfold Itm.s2
  dsimp only
  split
  · exact absurd rfl (h _ _)
  · rfl
theorem Itm.s2_at {R : List Rw} {it : Itm} {c : Str} {ts : List Tm} {r : Rw} (h : it.b = none) (e : it.part = .node c ts) (l : rowOf R c = some r) : it.s2 R = ⟨r.t, some (r.ps.zip ts), it.dep⟩ := by
  obtain ⟨part, b, dep⟩ := it
  have h : b = none := h
  have e : part = .node c ts := e
  subst h e
  unfold Itm.s2
  dsimp only
  rw [l]
theorem DtAll.strsE {K : PySem.W.Frag} {H : Hp} : ∀ {xs : List V} {ss : List Str}, DtAll K H xs (ss.map PyData.str) → xs = ss.map V.str
  | _, [], h => by cases h; rfl
  | _, n :: r, h => by
    cases h with
    | cons h t => rw [h.s, DtAll.strsE t]; rfl
def spTrans (K : PySem.W.Frag) (CL : Addr) : Sp := fun vs H Q E => ∃ (u v : V) (R : List Rw) (t : Tm), vs = [u, v] ∧ Dt K H u (.tuple (R.map Rw.d)) ∧ Dt K H v t.d ∧ okR R ∧ okT R t ∧
  (∀ (H' : Hp) (v' : V), Same H H' → (t.trans R).size ≤ 4000 → (t.trans R).ht ≤ 201 → Dt K H' v' (t.trans R).d → Q v' H') ∧ (∀ H' : Hp, Same H H' → 4000 < (t.trans R).size ∨ 201 < (t.trans R).ht → E (.ref CL) none H')
section
variable {P : Program} {w : World} {K : PySem.W.Frag} {mg : Str → Option Value} {base : Heap} {aF CL : Addr}
abbrev s_translate : Stmt := topS 12
theorem sc_translate : FnScope ["rows", "term", "templates", "heads", "waiting", "part", "bindings", "depth", "parameters", "template", "parts", "inner"] ["rows", "term"] (defScope s_translate) := ⟨rfl, rfl, rfl, by decide +kernel, rfl, by decide +kernel, by decide +kernel⟩
-- slots: 0:rows 1:term 2:templates 3:heads 4:waiting 5:part 6:bindings(cell) 7:depth(cell) 8:parameters 9:template 10:parts 11:inner(comp)
theorem ok_trans {f : Addr} {fd : FuncData} (F : Fun K "translate" "translate" s_translate f fd) (T : TxtX K mg aF CL) (C_children : C8.Cal P w K mg base 1 "children" (spKids K) []) (C_assembled : C8.Cal P w K mg base 2 "assembled" (spAsm K) [])
    (C_templates_of : C8.Cal P w K mg base 1 "templates_of" (spTpl K) []) : FnOk P w K mg base (L2.CX P w) 3 f fd ["rows", "term"] (spTrans K CL) := by
  refine F.okX sc_translate (fun vs H Q E h => ?_) (fun cdv A outer s H vs Q E hr h => ?_)
  · obtain ⟨u, v, R, t, rfl, _⟩ := h
    rfl
  obtain ⟨u, v, R, t, rfl, hu, hv, oR, oT, q, qE⟩ := h
  refine ⟨_, (pss_cons (ps_set (i := 2) sc_translate.nd rfl (Or.inl rfl) (C8.pe_c C_templates_of hr (by decide) rfl (pa_cons (pv 0) pa_nil)))
    (pss_cons (ps_set (i := 3) sc_translate.nd rfl (Or.inl rfl) (pe_lst pa_nil))
    (pss_cons (ps_set (i := 4) sc_translate.nd rfl (Or.inl rfl) (pe_lst (pa_cons (pe_tup (pa_cons (pv 1) (pa_cons pe_non (pa_cons pe_int pa_nil)))) pa_nil)))
    (pss_cons (ps_while (passes_of rfl) (pt_truth (pv 4) (by intro _; rfl)) (pss_cons (ps_asg (pe_bm0 PySem.F.plainAttrs_list PySem.F.slot_list_pop PySem.F.type_list_pop mt_pop (pv 4)) (pg_tup (by rfl) (pgs_cons (pg_name (i := 5) sc_translate.nd rfl (Or.inl rfl)) (pgs_cons (pg_name (i := 6) sc_translate.nd rfl (Or.inr rfl)) (pgs_cons (pg_name (i := 7) sc_translate.nd rfl (Or.inr rfl)) pgs_nil)))))
    (C8.pss_cut (ps_if (PW.pt (pw_and (pt_cmpR op_notN (pv 6) pe_non (nomark _)) (pw_and1 (pt_cmpR op_eq (pe_ix ix_tup (pv 5) pe_int (fun _ _ => rfl)) pe_str (nomark _))))) (pss_one (ps_asg (pe_tup (pa_cons (pe_dget (hu_of hr) (pv 6) (pe_ix ix_tup (pv 5) pe_int (fun _ _ => rfl)) (fun _ _ => rfl)) (pa_cons pe_non pa_nil))) (pg_tup (by rfl) (pgs_cons (pg_name (i := 5) sc_translate.nd rfl (Or.inl rfl)) (pgs_cons (pg_name (i := 6) sc_translate.nd rfl (Or.inr rfl)) pgs_nil))))) pss_nil)
    (C8.pss_cut (ps_if (PW.pt (pw_and (pt_cmpR op_isN (pv 6) pe_non (nomark _)) (pw_and1 (pt_cmpR op_eq (pe_ix ix_tup (pv 5) pe_int (fun _ _ => rfl)) pe_str (nomark _))))) (pss_cons (ps_asg (pe_dget (hu_of hr) (pv 2) (pe_ix ix_tup (pv 5) pe_int (fun _ _ => rfl)) (fun _ _ => rfl)) (pg_tup (by rfl) (pgs_cons (pg_name (i := 8) sc_translate.nd rfl (Or.inl rfl)) (pgs_cons (pg_name (i := 9) sc_translate.nd rfl (Or.inl rfl)) pgs_nil))))
    (pss_one (ps_asg (pe_tup (pa_cons (pv 9) (pa_cons (PKZ.pe_dictZip (by rfl) (by rfl) T.z_dict (by decide +kernel) (by rfl) T.z_zip (pa_cons (pv 8) (pa_cons (pe_ix ix_tup (pv 5) pe_int (fun _ _ => rfl)) pa_nil))) pa_nil))) (pg_tup (by rfl) (pgs_cons (pg_name (i := 5) sc_translate.nd rfl (Or.inl rfl)) (pgs_cons (pg_name (i := 6) sc_translate.nd rfl (Or.inr rfl)) pgs_nil)))))) pss_nil)
    (pss_cons (ps_set (i := 10) sc_translate.nd rfl (Or.inl rfl) (C8.pe_c C_children hr (by decide) rfl (pa_cons (pv 5) pa_nil)))
    (pss_cons (ps_expr (pe_bm PySem.F.plainAttrs_list PySem.F.slot_list_append PySem.F.type_list_append mt_append (pv 3) (pa_cons (pe_tup (pa_cons (pv 5) (pa_cons (pe_callB call_len_seq (by rfl) T.z_len (by decide +kernel) (pa_cons (pv 10) pa_nil)) pa_nil))) pa_nil)))
    (pss_cons (ps_if (PW.pt (pw_or (pt_cmpR op_gt (pe_callB call_len_seq (by rfl) T.z_len (by decide +kernel) (pa_cons (pv 3) pa_nil)) (pe_glI (n := 4000) rfl T.g_MP) (nomark _)) (pw_or1 (pt_cmpR op_gt (pv 7) (pe_glI (n := 200) rfl T.g_MN) (nomark _))))) (pss_one (ps_raise rfl (takes_of rfl rfl rfl rfl) (pmk_own PySem.F.excBase_ValueError T.xL T.gL T.kL (raises_own T.bL T.tL) rfl))) pss_nil)
    (pss_one (ps_expr (pe_bm PySem.F.plainAttrs_list PySem.F.slot_list_extend PySem.F.type_list_extend mt_extend (pv 4) (pa_cons (pe_lc (own := [("inner", 11)]) (g := (gName 11)) (tt := tYes) (by rfl) sc_translate.nd (pi_tup (PKZ.pe_revT (pv 10))) (blkOk_by (N := ["rows", "term", "templates", "heads", "waiting", "part", "bindings", "depth", "parameters", "template", "parts", "inner"]) (sc := defScope s_translate) (by decide +kernel)) (fun _ _ _ _ _ => (pg_name (i := 11) sc_translate.nd rfl (Or.inl rfl))) (fun _ _ _ _ _ => pts_nil) (fun _ _ _ _ _ => (pe_tup (pa_cons (pv 11) (pa_cons (pv 6) (pa_cons (pe_op op_add (pv 7) pe_int) pa_nil)))))) pa_nil)))))))))))
    (pss_one (ps_ret (C8.pe_c C_assembled hr (by decide) rfl (pa_cons (pv 3) pa_nil)))))))), ?_⟩
  refine ⟨_, rfl, u, R, rfl, hu, oR.nd, oR.len, fun H1 tp kvs s1 htp htpl => ?_⟩
  refine ⟨Nat.zero_le _, fun hd hhd => ?_⟩
  refine ⟨_, rfl, small (by show 3 ≤ _; decide), fun p0 hp0 => ⟨small (by show 1 ≤ _; decide), fun wt hwt => ?_⟩⟩
  have s2 : Same H1 (upd (upd H1 hd (.lst [])) p0 (.tup [v, .non, .int 0])) := (same_new hhd).trans (same_new hp0)
  have hd2 : (upd (upd H1 hd (.lst [])) p0 (.tup [v, .non, .int 0])) hd = some (.lst []) := same_new hp0 _ _ upd_same
  have ntw : hd ≠ wt := ne_of_none hd2 hwt
  have it0 : ItR K (upd (upd H1 hd (.lst [])) p0 (.tup [v, .non, .int 0])) (.ref p0) ⟨t, none, 0⟩ := ⟨p0, v, .non, rfl, SqT.of upd_same, (hv.same s1).same s2, rfl⟩
  have wt1 : H1 wt = none := s2.free hwt
  refine ⟨fun m σ H' => ∃ (its : List Itm) (hs : List (Tm × Nat)) (wv hv : List V) (o5 o6 o7 o8 o9 o10 : Option V), σ = [some u, some v, some (.ref tp), some (.ref hd), some (.ref wt), o5, o6, o7, o8, o9, o10, none] ∧ Same H1 H' ∧ H' wt = some (.lst wv) ∧ H' hd = some (.lst hv) ∧ ItAll K H' wv its ∧ DtAll K H' hv (hs.map HdD) ∧
    (∀ it ∈ its, it.ok R ∧ it.dep + (it.res R).ht ≤ (t.trans R).ht) ∧ (201 < (t.trans R).ht → ∃ it ∈ its, 201 < it.dep + (it.res R).ht) ∧ (∀ rest, PreL (its.reverse.map (Itm.res R)) rest → PreL [t.trans R] (hs ++ rest)) ∧ hs.length + totI R its = (t.trans R).size ∧ hs.length ≤ 4000 ∧ its.length ≤ 1000 * hs.length + 1 ∧ m = totI R its, ?_, ?_⟩
  · refine ⟨_, [⟨t, none, 0⟩], [], _, [], _, _, _, _, _, _, rfl, Same.upd s2 wt1, upd_same, by rw [upd_ne ntw]; exact hd2, .cons (it0.same (same_new hwt)) .nil, .nil, ?_, fun h => ⟨_, List.mem_singleton.mpr rfl, by show 201 < 0 + (t.trans R).ht; omega⟩, fun rest h => h, by unfold totI; simp [Itm.res, Itm.f], Nat.zero_le _, Nat.le_refl _, rfl⟩
    · intro it hit
      rw [List.mem_singleton.mp hit]
      exact ⟨oT, by show 0 + (t.trans R).ht ≤ _; omega⟩
  have hhd1 : H1 hd = none := hhd
  rintro m σ H5 ⟨its, hs, wv, hv5, o5, o6, o7, o8, o9, o10, rfl, s5, hw5, hh5, ia, da, ok5, dp5, pr, tot, h4, li, rfl⟩
  refine ⟨_, rfl, !wv.isEmpty, .inl ⟨wv, SqL.of hw5, rfl⟩, ?_⟩
  rcases List.eq_nil_or_concat its with rfl | ⟨ini, it, rfl⟩
  · cases ia
    refine iteF ?_
    have pn := pr [] .nil
    rw [List.append_nil] at pn
    have tot' : (t.trans R).size ≤ 4000 := by rw [← tot]; show hs.length + 0 ≤ 4000; omega
    exact ⟨_, rfl, hd, hv5, hs, t.trans R, rfl, SqL.of hh5, da, pn, by omega, fun H' v' sf dv => q H' v' ((s1.trans s5).trans sf) tot' (Nat.le_of_not_lt fun z => by obtain ⟨_, h, _⟩ := dp5 z; cases h) dv⟩
  rw [List.concat_eq_append] at ia ok5 dp5 pr tot li ⊢
  obtain ⟨us, zs, rfl, iu, iz⟩ := ia.split
  obtain ⟨y1, rfl, iy⟩ : ∃ y1, zs = [y1] ∧ ItR K H5 y1 it := by
    cases iz with
    | cons h t => cases t; exact ⟨_, rfl, h⟩
  rw [show (!(us ++ [y1]).isEmpty) = true by cases us <;> rfl]
  have ti : totI R (ini ++ [it]) = totI R ini + (it.res R).size := by
    unfold totI
    rw [List.map_append, List.sum_append, List.map_singleton, List.sum_singleton]
  rw [ti] at tot
  rw [List.length_append] at li
  have li : ini.length + 1 ≤ 1000 * hs.length + 1 := li
  refine iteT ⟨fun σ H' => ∃ (its : List Itm) (hs : List (Tm × Nat)) (wv hv : List V) (o5 o6 o7 o8 o9 o10 : Option V), σ = [some u, some v, some (.ref tp), some (.ref hd), some (.ref wt), o5, o6, o7, o8, o9, o10, none] ∧ Same H1 H' ∧ H' wt = some (.lst wv) ∧ H' hd = some (.lst hv) ∧ ItAll K H' wv its ∧ DtAll K H' hv (hs.map HdD) ∧
    (∀ it ∈ its, it.ok R ∧ it.dep + (it.res R).ht ≤ (t.trans R).ht) ∧ (201 < (t.trans R).ht → ∃ it ∈ its, 201 < it.dep + (it.res R).ht) ∧ (∀ rest, PreL (its.reverse.map (Itm.res R)) rest → PreL [t.trans R] (hs ++ rest)) ∧ hs.length + totI R its = (t.trans R).size ∧ hs.length ≤ 4000 ∧ its.length ≤ 1000 * hs.length + 1 ∧ totI R its < totI R (ini ++ [it]),
    fun σ' H' ⟨its, hs, wv, hv, o5, o6, o7, o8, o9, o10, e1, e2, e3, e4, e5, e6, e7, e7d, e8, e9, e10, e11, e12⟩ => ⟨totI R its, e12, its, hs, wv, hv, o5, o6, o7, o8, o9, o10, e1, e2, e3, e4, e5, e6, e7, e7d, e8, e9, e10, e11, rfl⟩, ?_⟩
  refine ⟨_, rfl, .inl ⟨rfl, _, SqL.of hw5⟩, wt, _, y1, rfl, rfl, hw5, by simp, ?_⟩
  rw [List.dropLast_concat]
  have s6 : Same H1 (upd H5 wt (.lst us)) := Same.upd s5 wt1
  have iu6 := iu.map (fun x it h => h.updL (us := us) hw5)
  have iy6 := iy.updL (us := us) hw5
  have da6 := da.upd (us := us) hw5
  have hw6 : (upd H5 wt (.lst us)) wt = some (.lst us) := upd_same
  have hh6 : (upd H5 wt (.lst us)) hd = some (.lst hv5) := by rw [upd_ne ntw]; exact hh5
  generalize upd H5 wt (.lst us) = H6 at s6 iu6 iy6 da6 hw6 hh6 ⊢
  obtain ⟨a1, pv, bv, rfl, hs6, dpv, dbv⟩ := iy6.out
  obtain ⟨okI, okh⟩ := ok5 it (List.mem_append_right _ (List.mem_singleton.mpr rfl))
  refine ⟨a1, _, rfl, hs6, rfl, _, _, rfl, _, _, rfl, _, _, rfl, rfl, ?_⟩
  -- a metavariable that stands for something
  refine ⟨fun σ H' => ∃ (pv bv : V) (o10 : Option V), σ = [some u, some v, some (.ref tp), some (.ref hd), some (.ref wt), some pv, some bv, some (.int (it.dep : Nat)), o8, o9, o10, none] ∧ Same H6 H' ∧ Dt K H' pv it.s1.part.d ∧ BvR K H' bv it.s1.b, ?_, ?_⟩
  · cases eb : it.b with
    | none =>
      rw [Itm.s1_none eb]
      obtain rfl : bv = .non := by rw [eb] at dbv; exact dbv
      refine ⟨_, rfl, rfl, _, rfl, iteF (iteF ⟨pv, .non, _, rfl, Same.refl _, dpv, ?_⟩)⟩
      rw [eb]; rfl
    | some tab =>
      have dbv0 := dbv
      rw [eb] at dbv
      obtain ⟨pb, kb, rfl, hpb, hbi⟩ := dbv
      obtain ⟨a2, r2, rfl, hs2⟩ := Tm.dt_parts dpv
      refine ⟨_, rfl, rfl, _, rfl, iteT (vTx (v := .str it.part.hd) rfl hs2 (atI_nat (j := 0) rfl) ⟨rfl, _, rfl, ?_⟩)⟩
      by_cases e : it.part.hd = "meta"
      · obtain ⟨sv, ev⟩ := Tm.of_var e
        have hok : it.part = .var sv → ∃ t', lookA tab sv = some t' := fun ev => by
          have h2 : okP (tab.map Prod.fst) it.part := by
            have := okI
            unfold Itm.ok at this
            rw [eb] at this
            exact this.1
          exact lookA_has (h2.at_.2 sv ev)
        obtain ⟨t', et⟩ := hok ev
        rw [Itm.s1_at eb ev et]
        rw [ev] at dpv
        unfold Tm.d at dpv
        obtain ⟨a3, x3, y3, e3, hs3, k1, k2⟩ := Dt.t2 dpv
        cases e3
        obtain rfl := k2.s
        obtain ⟨vv, ev1, ev2⟩ := hbi sv t'.d (by rw [lookA_map, et]; rfl)
        refine sT e ⟨_, rfl, ?_⟩
        refine vTx rfl hs3 (atI_nat (j := 1) rfl) ⟨pb, vv, rfl, by rw [← ev1]; exact DGet.k (k := Sum.inr sv) hpb, small (by show 2 ≤ _; decide), fun pn hpn => ?_⟩
        exact ⟨pn, _, rfl, SqT.of upd_same, rfl, _, _, rfl, _, _, rfl, rfl, vv, .non, _, rfl, same_new hpn, ev2.new hpn, rfl⟩
      · rw [Itm.s1_other (fun s es => e (by rw [es]; rfl))]
        exact sF e ⟨_, _, _, rfl, Same.refl _, dpv, dbv0⟩
  rintro σ H7 ⟨pv7, bv7, o107, rfl, s7, dpv7, dbv7⟩
  have ok7 : it.s1.ok R := it.s1_ok okI
  have v7 := it.s1_var okI
  have r7 : it.s1.res R = it.res R := it.s1_res
  have d7 : it.s1.dep = it.dep := it.s1_dep
  generalize it.s1 = it7 at dpv7 dbv7 ok7 v7 r7 d7
  -- a node of the source
  refine ⟨fun σ H' => ∃ (pv bv : V) (o8 o9 o10 : Option V), σ = [some u, some v, some (.ref tp), some (.ref hd), some (.ref wt), some pv, some bv, some (.int (it.dep : Nat)), o8, o9, o10, none] ∧ Same H7 H' ∧ Dt K H' pv (it7.s2 R).part.d ∧ BvR K H' bv (it7.s2 R).b, ?_, ?_⟩
  · have s17 := s6.trans s7
    cases eb : it7.b with
    | some tab =>
      rw [Itm.s2_some eb]
      have dbv0 := dbv7
      rw [eb] at dbv7
      obtain ⟨pb, kb, rfl, hpb, hbi⟩ := dbv7
      exact ⟨_, rfl, rfl, _, rfl, iteF (iteF ⟨pv7, _, _, _, _, rfl, Same.refl _, dpv7, dbv0⟩)⟩
    | none =>
      obtain rfl : bv7 = .non := by rw [eb] at dbv7; exact dbv7
      obtain ⟨a2, r2, rfl, hs2⟩ := Tm.dt_parts dpv7
      refine ⟨_, rfl, rfl, _, rfl, iteT (vTx (v := .str it7.part.hd) rfl hs2 (atI_nat (j := 0) rfl) ⟨rfl, _, rfl, ?_⟩)⟩
      by_cases e : it7.part.hd = "node"
      · obtain ⟨c, ts, ev⟩ := Tm.of_node e
        have okt : okT R (.node c ts) := by
          have := ok7
          unfold Itm.ok at this
          rw [eb, ev] at this
          exact this
        obtain ⟨r, hr, rfl, hl⟩ := okt.at_.2 c ts rfl
        rw [Itm.s2_at eb ev (rowOf_mem oR.nd hr)]
        rw [ev] at dpv7
        unfold Tm.d at dpv7
        obtain ⟨a3, x3, y3, z3, e3, hs3, k1, k2, k3⟩ := Dt.t3 dpv7
        cases e3
        obtain rfl := k2.s
        obtain ⟨a4, ys4, rfl, hs4, da4⟩ := Dt.tn k3
        rw [Tm.ds_map] at da4
        obtain ⟨vr, er1, er2⟩ := htpl r hr
        obtain ⟨a5, x5, y5, rfl, hs5, j1, j2⟩ := Dt.t2 (er2.same s17)
        obtain ⟨a6, xs6, rfl, hs66, da66⟩ := Dt.tn j1
        obtain rfl := da66.strsE
        have htp7 := s17 _ _ htp
        refine sT e ⟨_, rfl, vTx rfl hs3 (atI_nat (j := 1) rfl) ⟨tp, .ref a5, rfl, by rw [← er1]; exact DGet.k (k := Sum.inr r.nm) htp7, ?_⟩⟩
        refine ⟨a5, _, rfl, hs5, rfl, _, _, rfl, _, _, rfl, rfl, ?_⟩
        refine ⟨_, rfl, _, rfl, vTx rfl hs3 (atI_nat (j := 2) rfl) ⟨a6, a4, r.ps.map Sum.inr, ys4, rfl, .inr (by rw [List.map_map]; exact hs66), .inr hs4, ?_, fun pd hpd => ?_⟩⟩
        · have := oR.ar r hr
          rw [List.length_map]
          exact small (by omega)
        · refine ⟨small (by show 2 ≤ _; decide), fun pn hpn => ?_⟩
          have sx := (same_new (o := .dK (mergeK [] ((r.ps.map (Sum.inr : Str → Key)).zip ys4))) hpd)
          have hpd2 := same_new (o := .tup [y5, .ref pd]) hpn _ _ (upd_same (H := H7) (a := pd) (o := .dK (mergeK [] ((r.ps.map (Sum.inr : Str → Key)).zip ys4))))
          refine ⟨pn, _, rfl, SqT.of upd_same, rfl, _, _, rfl, _, _, rfl, rfl, y5, .ref pd, _, _, _, rfl, sx.trans (same_new hpn), (j2.same sx).new hpn, pd, _, rfl, hpd2, ?_⟩
          have bz := BindR.zip (ps := r.ps) ((da4.same sx).same (same_new (o := .tup [y5, .ref pd]) hpn))
          have em : ∀ (ps : List Str) (ts : List Tm), (ps.zip ts).map (fun q => (q.1, q.2.d)) = ps.zip (ts.map Tm.d) := by
            intro ps
            induction ps with
            | nil => intro ts; rfl
            | cons p ps ih => intro ts; cases ts with
              | nil => rfl
              | cons t ts => rw [List.zip_cons_cons, List.map_cons, List.map_cons, List.zip_cons_cons, ih]
          rw [em]
          exact bz
      · rw [Itm.s2_other (fun c ts es => e (by rw [es]; rfl))]
        refine sF e ⟨_, _, _, _, _, rfl, Same.refl _, dpv7, ?_⟩
        rw [eb]; rfl
  rintro σ H8 ⟨pv8, bv8, o88, o98, o108, rfl, s8, dpv8, dbv8⟩
  have can8 : (it7.s2 R).can R := Itm.s2_can oR ok7 v7
  have r8 : (it7.s2 R).res R = it.res R := it7.s2_res.trans r7
  have d8 : (it7.s2 R).dep = it.dep := it7.s2_dep.trans d7
  generalize it7.s2 R = it8 at dpv8 dbv8 can8 r8 d8
  have s18 := (s6.trans s7).trans s8
  have ln8 := Itm.can_len can8
  refine ⟨_, rfl, pv8, it8.part, rfl, dpv8, by omega, fun H9 p9 ws9 s9 hp9 da9 => ?_⟩
  have s68 := (s7.trans s8).trans s9
  have hh9 := s68 _ _ hh6
  have hw9 := s68 _ _ hw6
  have l9 : ws9.length = it8.part.kids.length := by rw [da9.lenD, List.length_map]
  have lhv : hv5.length = hs.length := by rw [da6.lenD, List.length_map]
  refine ⟨_, rfl, .inl ⟨rfl, _, SqL.of hh9⟩, _, rfl, _, rfl, p9, ws9, rfl, .inr hp9, small (by show 2 ≤ _; decide), fun pt hpt => ?_⟩
  have hhA := same_new (o := .tup [pv8, .int (ws9.length : Nat)]) hpt _ _ hh9
  refine ⟨hd, hv5, _, rfl, rfl, hhA, smallL (by omega), ?_⟩
  have sA : Same H9 (upd H9 pt (.tup [pv8, .int (ws9.length : Nat)])) := same_new hpt
  have dhead : Dt K (upd H9 pt (.tup [pv8, .int (ws9.length : Nat)])) (.ref pt) (HdD (it8.part, it8.part.kids.length)) := by
    unfold HdD
    rw [← l9]
    exact Dt.mk2 hpt (dpv8.same s9) (.int _)
  have sB : Same H1 (upd (upd H9 pt (.tup [pv8, .int (ws9.length : Nat)])) hd (.lst (hv5 ++ [.ref pt]))) := Same.upd ((s18.trans s9).trans sA) hhd1
  have daB : DtAll K (upd (upd H9 pt (.tup [pv8, .int (ws9.length : Nat)])) hd (.lst (hv5 ++ [.ref pt]))) (hv5 ++ [.ref pt]) ((hs ++ [(it8.part, it8.part.kids.length)]).map HdD) := by
    rw [List.map_append]
    exact (((da6.same s68).same sA).append (.cons dhead .nil)).upd hhA
  have hhB : (upd (upd H9 pt (.tup [pv8, .int (ws9.length : Nat)])) hd (.lst (hv5 ++ [.ref pt]))) hd = some (.lst (hv5 ++ [.ref pt])) := upd_same
  have hwB : (upd (upd H9 pt (.tup [pv8, .int (ws9.length : Nat)])) hd (.lst (hv5 ++ [.ref pt]))) wt = some (.lst us) := by
    rw [upd_ne (Ne.symm ntw)]
    exact sA _ _ hw9
  have iuB : ItAll K (upd (upd H9 pt (.tup [pv8, .int (ws9.length : Nat)])) hd (.lst (hv5 ++ [.ref pt]))) us ini := iu6.map fun x it h => ((h.same s68).same sA).updL hhA
  have dbB : BvR K (upd (upd H9 pt (.tup [pv8, .int (ws9.length : Nat)])) hd (.lst (hv5 ++ [.ref pt]))) bv8 it8.b := ((dbv8.same s9).same sA).updL hhA
  have hpB : SqT K (upd (upd H9 pt (.tup [pv8, .int (ws9.length : Nat)])) hd (.lst (hv5 ++ [.ref pt]))) p9 ws9 := seqT_upd (Same.seqT sA hp9) hhA
  have dkB : DtAll K (upd (upd H9 pt (.tup [pv8, .int (ws9.length : Nat)])) hd (.lst (hv5 ++ [.ref pt]))) ws9 (it8.part.kids.map Tm.d) := (da9.same sA).upd hhA
  generalize upd (upd H9 pt (.tup [pv8, .int (ws9.length : Nat)])) hd (.lst (hv5 ++ [.ref pt])) = HB at sB daB hhB hwB iuB dbB hpB dkB ⊢
  have spos := (it.res R).size_pos
  have hpos := (it.res R).ht_pos
  refine ⟨_, rfl, hd, _, rfl, .inl (SqL.of hhB), _, _, rfl, rfl, _, rfl, ?_⟩
  rw [List.length_append, lhv, show hs.length + [V.ref pt].length = hs.length + 1 from rfl]
  by_cases h5 : 4000 < hs.length + 1
  · rw [decide_eq_true (show ((4000 : Int) < ((hs.length + 1 : Nat) : Int)) by omega)]
    exact iteT (iteT (qE _ (s1.trans sB) (.inl (by omega))))
  rw [decide_eq_false (show ¬ ((4000 : Int) < ((hs.length + 1 : Nat) : Int)) by omega)]
  refine iteF ⟨_, rfl, _, _, rfl, rfl, _, rfl, ?_⟩
  by_cases h6 : 200 < it.dep
  · rw [decide_eq_true (show ((200 : Int) < (it.dep : Int)) by omega)]
    exact iteT (qE _ (s1.trans sB) (.inr (by omega)))
  rw [decide_eq_false (show ¬ ((200 : Int) < (it.dep : Int)) by omega)]
  refine iteF ⟨_, rfl, .inl ⟨rfl, _, SqL.of hwB⟩, ⟨_, rfl, ?_⟩⟩
  refine ⟨p9, ws9, rfl, hpB, fun pr9 hpr => ?_⟩
  have sC := same_new (o := .tup ws9.reverse) hpr
  refine ⟨pr9, rfl, ⟨_, SqT.of upd_same⟩, fun D hD => lc_it (walk_tup (K := K) (xs := ws9.reverse)) (fun i H' => ∃ vs, Same (upd HB pr9 (.tup ws9.reverse)) H' ∧ H' D = some (.lst vs) ∧ vs.length = i ∧ ItAll K H' vs ((it8.part.kids.reverse.take i).map fun k => ⟨k, it8.b, it.dep + 1⟩)) ?_ ?_ ?_ ?_⟩
  · exact ⟨[], same_new hD, upd_same, rfl, .nil⟩
  · rintro i H' _ ⟨_, s, _⟩
    exact Same.seqT s (SqT.of upd_same)
  · rintro i x HC HC hi ⟨vs, s, hv', lv, ia'⟩ ⟨rfl, gx⟩
    obtain ⟨d, gd, dx⟩ := DtAll.getX dkB.rev gx
    rw [← List.map_reverse, List.getElem?_map] at gd
    cases e0 : it8.part.kids.reverse[i]? with
    | none => rw [e0] at gd; cases gd
    | some k =>
    rw [e0] at gd
    cases gd
    rw [List.length_reverse] at hi
    refine ⟨rfl, yes_ ⟨_, rfl, _, rfl, _, rfl, _, _, rfl, rfl, small (by show 3 ≤ _; decide), fun pn hpn => ?_⟩⟩
    have hv2 := same_new (o := .tup [x, bv8, .int ((it.dep : Int) + 1)]) hpn _ _ hv'
    refine ⟨vs, hv2, smallL (by omega), vs ++ [.ref pn], Same.upd (s.trans (same_new hpn)) hD, upd_same, by rw [List.length_append, lv]; rfl, ?_⟩
    rw [List.take_add_one, e0, List.map_append]
    refine ItAll.app (ia'.map fun x it h => (h.same (same_new hpn)).updL hv2) (.cons (ItR.updL ?_ hv2) .nil)
    exact ⟨pn, x, bv8, rfl, SqT.of upd_same, ((dx.same sC).same s).new hpn, ((dbB.same sC).same s).same (same_new hpn)⟩
  · rintro HD ⟨vs, s, hv', lv, ia'⟩
    rw [List.length_reverse, l9, show it8.part.kids.length = it8.part.kids.reverse.length by rw [List.length_reverse], List.take_length] at ia'
    have sD := sC.trans s
    have hwD := sD _ _ hwB
    have hhD := sD _ _ hhB
    have nwD : wt ≠ D := ne_of_none (sC _ _ hwB) hD
    have lus : us.length = ini.length := iuB.len
    have lvs : vs.length = it8.part.kids.length := by rw [lv, List.length_reverse, l9]
    have etot : totI R (it8.part.kids.reverse.map fun k => (⟨k, it8.b, it.dep + 1⟩ : Itm)) = ((it8.part.kids.map (it8.f R)).map Tm.size).sum := by
      unfold totI
      rw [List.map_map, List.map_map, List.map_reverse, List.sum_reverse]
      rfl
    have esz := Itm.can_size can8
    rw [r8] at esz
    refine ⟨wt, D, _, _, rfl, rfl, hwD, hv', small (by omega), ini ++ it8.part.kids.reverse.map (fun k => ⟨k, it8.b, it.dep + 1⟩), hs ++ [(it8.part, it8.part.kids.length)], us ++ vs, hv5 ++ [.ref pt], _, _, _, _, _, _, rfl, Same.upd (sB.trans sD) wt1, upd_same, by rw [upd_ne ntw]; exact hhD, ?_, (daB.same sD).upd hwD, ?_, ?_, ?_, ?_, ?_, ?_, ?_⟩
    · exact ItAll.app (iuB.map fun x it h => (h.same sD).updL hwD) (ia'.map fun x it h => h.updL hwD)
    · intro jt hjt
      rcases List.mem_append.mp hjt with h | h
      · exact ok5 jt (List.mem_append_left _ h)
      · obtain ⟨k, hk, rfl⟩ := List.mem_map.mp h
        have hk := List.mem_reverse.mp hk
        have hkid := Itm.can_kid can8 hk
        have hht := Itm.can_ht can8 hk
        rw [r8] at hht
        refine ⟨?_, ?_⟩
        · unfold Itm.ok at hkid ⊢; exact hkid
        · show it.dep + 1 + (it8.f R k).ht ≤ _
          omega
    · intro big
      obtain ⟨jt, hjt, hb⟩ := dp5 big
      rcases List.mem_append.mp hjt with h | h
      · exact ⟨jt, List.mem_append_left _ h, hb⟩
      · rw [List.mem_singleton.mp h] at hb
        refine Classical.byContradiction fun no => ?_
        have all : ∀ k ∈ it8.part.kids, (it8.f R k).ht ≤ 200 - it.dep := fun k hk => Nat.le_of_not_lt fun z => no ⟨⟨k, it8.b, it.dep + 1⟩, List.mem_append_right _ (List.mem_map.mpr ⟨k, List.mem_reverse.mpr hk, rfl⟩), by show 201 < it.dep + 1 + (it8.f R k).ht; omega⟩
        have hle : (it8.res R).ht ≤ (200 - it.dep) + 1 := Tm.ht_le fun k hk => by
          rw [it8.can_res can8, Tm.kids_with (by rw [List.length_map])] at hk
          obtain ⟨k2, hk2, rfl⟩ := List.mem_map.mp hk
          exact all k2 hk2
        rw [r8] at hle
        omega
    · intro rest hrest
      rw [List.reverse_append, List.map_append, ← List.map_reverse, List.reverse_reverse, List.map_map] at hrest
      have h1 := Itm.can_pre can8 (rest := ini.reverse.map (Itm.res R)) hrest
      rw [r8] at h1
      rw [List.append_assoc]
      refine pr _ ?_
      rw [List.reverse_append, List.map_append]
      exact h1
    · have : totI R (ini ++ it8.part.kids.reverse.map (fun k => (⟨k, it8.b, it.dep + 1⟩ : Itm))) = totI R ini + ((it8.part.kids.map (it8.f R)).map Tm.size).sum := by
        rw [← etot]; unfold totI; rw [List.map_append, List.sum_append]
      rw [this, List.length_append, show hs.length + [(it8.part, it8.part.kids.length)].length = hs.length + 1 from rfl]
      omega
    · rw [List.length_append, show hs.length + [(it8.part, it8.part.kids.length)].length = hs.length + 1 from rfl]
      omega
    · rw [List.length_append, List.length_append, List.length_map, List.length_reverse, show hs.length + [(it8.part, it8.part.kids.length)].length = hs.length + 1 from rfl]
      omega
    · have : totI R (ini ++ it8.part.kids.reverse.map (fun k => (⟨k, it8.b, it.dep + 1⟩ : Itm))) = totI R ini + ((it8.part.kids.map (it8.f R)).map Tm.size).sum := by
        rw [← etot]; unfold totI; rw [List.map_append, List.sum_append]
      rw [this, ti]
      omega
end
end PK
namespace PK
open PySem L2
/-- many different words -/
def spWords : Sp := fun vs H Q _ => ∃ (l c : Addr) (m : Nat), vs = [.ref l, .int (m : Int)] ∧ Pool H l c ∧ m ≤ 25 ∧
  ∀ (H' : Hp) (p : Addr) (ws : List Str), Ext l c H H' → H p = none → H' p = some (.lst (ws.map V.str)) → ws.length = m → ws.Nodup → (∀ x ∈ ws, Wd x ∧ x ∉ BARRED) → Q (.ref p) H'
section
variable {P : Program} {w : World} {K : PySem.W.Frag} {mg : Str → Option Value} {base : Heap}
abbrev s_law_words : Stmt := topS 19
theorem sc_law_words : FnScope ["pool", "many", "letters", "others", "barred", "size", "at", "alike", "k", "base", "words", "row", "word", "more", "j"] ["pool", "many"] (defScope s_law_words) := ⟨rfl, rfl, rfl, by decide +kernel, rfl, by decide +kernel, by decide +kernel⟩
-- slots: 0:pool(cell) 1:many 2:letters 3:others(cell) 4:barred 5:size 6:at 7:alike 8:k 9:base 10:words 11:row 12:word 13:more 14:j(comp)
theorem ok_words {f : Addr} {fd : FuncData} (F : Fun K "_law_words" "_law_words" s_law_words f fd) (T : Txt K mg) (C_law_take : C8.Cal P w K mg base 2 "_law_take" (spTake 2) []) :
    FnOk P w K mg base CX0 3 f fd ["pool", "many"] spWords := by
  refine F.ok sc_law_words (fun vs H Q E h => ?_) (fun cdv A outer s H vs Q E hr h => ?_)
  · obtain ⟨l, c, m, rfl, _⟩ := h
    rfl
  obtain ⟨l, c, m, rfl, P0, hm, q⟩ := h
  refine ⟨_, (pss_cons (ps_set (i := 2) sc_law_words.nd rfl (Or.inl rfl) pe_str)
    (pss_cons (ps_set (i := 3) sc_law_words.nd rfl (Or.inr rfl) pe_str)
    (pss_cons (ps_set (i := 4) sc_law_words.nd rfl (Or.inl rfl) (pe_tup (pa_cons pe_str (pa_cons pe_str (pa_cons pe_str (pa_cons pe_str (pa_cons pe_str (pa_cons pe_str (pa_cons pe_str (pa_cons pe_str pa_nil))))))))))
    (pss_cons (ps_set (i := 5) sc_law_words.nd rfl (Or.inl rfl) (C8.pe_c C_law_take hr (by decide) rfl (pa_cons (pv 0) (pa_cons pe_int pa_nil))))
    (pss_cons (ps_set (i := 6) sc_law_words.nd rfl (Or.inl rfl) (C8.pe_c C_law_take hr (by decide) rfl (pa_cons (pv 0) (pa_cons (pe_op op_add (pv 5) pe_int) pa_nil))))
    (pss_cons (ps_set (i := 7) sc_law_words.nd rfl (Or.inl rfl) (C8.pe_c C_law_take hr (by decide) rfl (pa_cons (pv 0) (pa_cons pe_int pa_nil))))
    (pss_cons (ps_setLc (i := 9) (own := [("k", 8)]) (g := (gName 8)) (tt := tYes) (by rfl) sc_law_words.nd rfl rfl (sw_true rfl rfl rfl (by decide +kernel)) (pi_range1 (by rfl) T.z_range (pa_cons (pv 5) pa_nil)) (blkOk_by (N := ["pool", "many", "letters", "others", "barred", "size", "at", "alike", "k", "base", "words", "row", "word", "more", "j"]) (sc := defScope s_law_words) (by decide +kernel)) (fun _ _ _ _ _ => (pg_name (i := 8) sc_law_words.nd rfl (Or.inl rfl))) (fun _ _ _ _ _ => pts_nil) (fun _ _ _ _ _ => (pe_ix ix_str (pv 3) (C8.pe_c C_law_take hr (by decide) rfl (pa_cons (pv 0) (pa_cons pe_int pa_nil))) (fun _ _ => rfl))))
    (pss_cons (ps_set (i := 10) sc_law_words.nd rfl (Or.inl rfl) (pe_lst pa_nil))
    (pss_cons (ps_for PassesOwn.never rfl (pi_range1 (by rfl) T.z_range (pa_cons (pv 1) pa_nil)) (pg_name (i := 8) sc_law_words.nd rfl (Or.inl rfl)) (pss_cons (ps_set (i := 11) sc_law_words.nd rfl (Or.inl rfl) (pe_op op_cat (pe_lst (pa_cons (pe_ix ix_str (pv 2) (C8.pe_c C_law_take hr (by decide) rfl (pa_cons (pv 0) (pa_cons pe_int pa_nil))) (fun _ _ => rfl)) pa_nil)) (pv 9)))
    (C8.pss_cut (ps_if (pt_cmpR op_eq (pv 7) pe_int (nomark _)) (pss_one (ps_set (i := 11) sc_law_words.nd rfl (Or.inl rfl) (pe_op op_cat (pe_lst (pa_cons (pe_ix ix_str (pv 2) (C8.pe_c C_law_take hr (by decide) rfl (pa_cons (pv 0) (pa_cons pe_int pa_nil))) (fun _ _ => rfl)) pa_nil)) (pe_lc (own := [("j", 14)]) (g := (gName 14)) (tt := tYes) (by rfl) sc_law_words.nd (pi_range1 (by rfl) T.z_range (pa_cons (C8.pe_c C_law_take hr (by decide) rfl (pa_cons (pv 0) (pa_cons pe_int pa_nil))) pa_nil)) (blkOk_by (N := ["pool", "many", "letters", "others", "barred", "size", "at", "alike", "k", "base", "words", "row", "word", "more", "j"]) (sc := defScope s_law_words) (by decide +kernel)) (fun _ _ _ _ _ => (pg_name (i := 14) sc_law_words.nd rfl (Or.inl rfl))) (fun _ _ _ _ _ => pts_nil) (fun _ _ _ _ _ => (pe_ix ix_str (pv 3) (C8.pe_c C_law_take hr (by decide) rfl (pa_cons (pv 0) (pa_cons pe_int pa_nil))) (fun _ _ => rfl))))))) pss_nil)
    (pss_cons (ps_asg (pe_ix ix_str (pv 2) (C8.pe_c C_law_take hr (by decide) rfl (pa_cons (pv 0) (pa_cons pe_int pa_nil))) (fun _ _ => rfl)) (pg_sub (pv 11) (pe_callB (call_min2 (by rfl)) (by rfl) T.z_min (by decide +kernel) (pa_cons (pv 6) (pa_cons (pe_op op_sub (pe_callB call_len_seq (by rfl) T.z_len (by decide +kernel) (pa_cons (pv 11) pa_nil)) pe_int) pa_nil))) set_list))
    (pss_cons (ps_set (i := 12) sc_law_words.nd rfl (Or.inl rfl) (pe_join pe_str (pv 11)))
    (C8.pss_cut (ps_for PassesOwn.never rfl (pi_range1 (by rfl) T.z_range (pa_cons (pe_op op_add (pv 1) pe_int) pa_nil)) (pg_name (i := 13) sc_law_words.nd rfl (Or.inl rfl)) (pss_cons (ps_if (PW.pt (pw_and (pt_cmpR op_notIn_seq (pv 12) (pv 10) rfl) (pw_and1 (pt_cmpR op_notIn_seq (pv 12) (pv 4) rfl)))) (pss_one ps_break) pss_nil)
    (pss_one (ps_set (i := 12) sc_law_words.nd rfl (Or.inl rfl) (pe_op op_add_str (pe_op op_add_str (pe_op op_add_str pe_str (pe_callTy call_str_int (by rfl) T.z_str (by decide +kernel) (pa_cons (pv 13) pa_nil))) pe_str) (pe_callTy call_str_int (by rfl) T.z_str (by decide +kernel) (pa_cons (pv 8) pa_nil)))))))
    (pss_one (ps_expr (pe_bm PySem.F.plainAttrs_list PySem.F.slot_list_append PySem.F.type_list_append mt_append (pv 10) (pa_cons (pv 12) pa_nil))))))))))
    (pss_one (ps_ret (pv 10)))))))))))), ?_⟩
  -- letters, others, barred
  refine ⟨(by show 8 ≤ sizeLine; exact small (by decide)), fun bt hbt => ?_⟩
  have x1 : Ext l c H (upd H bt (.tup (BARRED.map V.str))) := (Ext.refl P0).new P0 hbt
  -- size, at, alike
  refine vTake rfl x1.pool (by decide) (by decide) fun size H2 hs0 hs1 x2 => ?_
  refine ⟨_, rfl, _, rfl, _, _, rfl, rfl, l, c, size + 1, False, rfl, x2.pool, by omega, by omega, .inl (Nat.le_refl 2), fun at_ H3 ha0 ha1 x3 => ?_⟩
  refine vTake rfl x3.pool (by decide) (by decide) fun al H4 hal0 hal1 x4 => ?_
  have x5 : Ext l c H H4 := ((x1.trans x2).trans x3).trans x4
  have P4 := x5.pool
  have hbt4 : H4 bt = some (.tup (BARRED.map V.str)) := (x2.trans (x3.trans x4)).keep _ _ (P0.ne hbt).1 upd_same
  -- base = [..]
  refine ⟨_, rfl, size, rfl, by omega, by omega, fun D hD => lc_range (lo := 0) (n := size.toNat) (fun i H' => ∃ row : List Nat, Ext l c H4 H' ∧ H' D = some (.lst (row.map (fun s => V.str (one s)))) ∧ row.length = i ∧ Ones row) ?_ ?_ ?_⟩
  · exact ⟨[], (Ext.refl P4).upd P4 hD, upd_same, rfl, fun _ h => nomatch h⟩
  · rintro i H' hi ⟨row, x, hd, hlen, hone⟩
    refine ⟨rfl, yes_ ⟨_, rfl, vTake rfl x.pool (by decide) (by decide) fun d H5 d0 d1 y => strAt OTH oth_len (by decide) d0 d1 fun sg hsg => ?_⟩⟩
    refine ⟨row.map (fun s => V.str (one s)), y.keep D _ (P4.ne hD).1 hd, by rw [List.length_map]; exact smallL (by omega), row ++ [sg], (x.trans y).upd P4 hD, ?_, ?_, ?_⟩
    · rw [upd_same, List.map_append]; rfl
    · rw [List.length_append, hlen]; rfl
    · intro z hz
      rcases List.mem_append.mp hz with h | h
      · exact hone z h
      · rw [List.mem_singleton.mp h]; exact hsg
  · rintro HB ⟨b0, xb, hb0, hb0l, hb0o⟩
    have PB := xb.pool
    have xB : Ext l c H HB := x5.trans xb
    have hbtB : HB bt = some (.tup (BARRED.map V.str)) := xb.keep _ _ (P0.ne hbt).1 hbt4
    -- words = []
    refine ⟨Nat.zero_le _, fun wd hwd => ?_⟩
    refine ⟨_, rfl, (m : Int), rfl, by omega, by omega, for_range (lo := 0) (n := (m : Int).toNat) (fun i σ H' => ∃ (ws : List Str) (k' r' w' m' : Option V), σ = [some (.ref l), some (.int m), some (.str LET), some (.str OTH), some (.ref bt), some (.int size), some (.int at_), some (.int al), k', some (.ref D), some (.ref wd), r', w', m', none] ∧
      Ext l c HB H' ∧ H' wd = some (.lst (ws.map V.str)) ∧ ws.length = i ∧ ws.Nodup ∧ ∀ x ∈ ws, Wd x ∧ x ∉ BARRED) ?_ ?_ ?_⟩
    · exact ⟨[], _, _, _, _, rfl, (Ext.refl PB).upd PB hwd, upd_same, rfl, List.nodup_nil, fun _ h => nomatch h⟩
    · rintro i σ H' hi ⟨ws, k', r', w', m', rfl, x, hw, hwl, hwn, hw12⟩
      have hi' : i < m := hi
      have PX := x.pool
      have neD : D ≠ l := (P4.ne hD).1
      have newd : wd ≠ l := (PB.ne hwd).1
      have hDX : H' D = some (.lst (b0.map (fun s => V.str (one s)))) := x.keep _ _ neD hb0
      have hbtX : H' bt = some (.tup (BARRED.map V.str)) := x.keep _ _ (P0.ne hbt).1 hbtB
      -- row = [..] + base
      refine ⟨_, rfl, vTake rfl PX (by decide) (by decide) fun d H1 d0 d1 y => strAt LET let_len (by decide) d0 d1 fun sg hsg => ?_⟩
      have hD1 := y.keep _ _ neD hDX
      refine ⟨(by show 1 ≤ sizeLine; exact small (by decide)), fun p1 hp1 => ⟨_, rfl, p1, D, _, _, rfl, rfl, upd_same, (by rw [upd_ne (ne_of_none hD1 hp1)]; exact hD1), (by rw [List.length_map]; show 1 + b0.length ≤ _; exact small (by omega)), fun p2 hp2 => ?_⟩⟩
      have z2 : Ext l c H' (upd (upd H1 p1 _) p2 (.lst ([V.str ⟨#[sg]⟩] ++ b0.map (fun s => V.str (one s))))) := (y.new PX hp1).new PX hp2
      have hp2' : H' p2 = none := (y.new PX hp1).free PX hp2
      refine ⟨fun σ' H'' => ∃ (rw_ : Addr) (s0 : Nat) (row : List Nat), σ' = [some (.ref l), some (.int m), some (.str LET), some (.str OTH), some (.ref bt), some (.int size), some (.int at_), some (.int al), some (.int (0 + (i : Int))), some (.ref D), some (.ref wd), some (.ref rw_), w', m', none] ∧
        Ext l c H' H'' ∧ H' rw_ = none ∧ H'' rw_ = some (.lst ((s0 :: row).map (fun s => V.str (one s)))) ∧ s0 ∈ LET.cps.toList ∧ Ones row ∧ row.length ≤ 11, ?_, ?_⟩
      · -- if alike == 0
        refine ⟨_, rfl, rfl, _, rfl, ite2 (fun _ => ?_) (fun _ => ⟨p2, sg, b0, rfl, z2, hp2', upd_same, hsg, hb0o, by omega⟩)⟩
        refine ⟨_, rfl, vTake rfl z2.pool (by decide) (by decide) fun d H6 d0 d1 y6 => strAt LET let_len (by decide) d0 d1 fun sg2 hsg2 => ?_⟩
        refine ⟨(by show 1 ≤ sizeLine; exact small (by decide)), fun p3 hp3 => ?_⟩
        have z3 := (z2.trans y6).new (o := .lst [.str ⟨#[sg2]⟩]) PX hp3
        have P3 := z3.pool
        have hp3' : H' p3 = none := (z2.trans y6).free PX hp3
        refine vTake rfl z3.pool (by decide) (by decide) fun n2 H7 n0 n1 y7 => ⟨n2, rfl, by omega, by omega, fun D2 hD2 => lc_range (lo := 0) (n := n2.toNat) (fun i H'' => ∃ row : List Nat, Ext l c H7 H'' ∧ H'' D2 = some (.lst (row.map (fun s => V.str (one s)))) ∧ row.length = i ∧ Ones row) ?_ ?_ ?_⟩
        · exact ⟨[], (Ext.refl y7.pool).upd y7.pool hD2, upd_same, rfl, fun _ h => nomatch h⟩
        · rintro i H'' hi ⟨row, x, hd, hlen, hone⟩
          refine ⟨rfl, yes_ ⟨_, rfl, vTake rfl x.pool (by decide) (by decide) fun d H5 d0 d1 y => strAt OTH oth_len (by decide) d0 d1 fun sg hsg => ?_⟩⟩
          refine ⟨row.map (fun s => V.str (one s)), y.keep D2 _ (y7.pool.ne hD2).1 hd, by rw [List.length_map]; exact smallL (by omega), row ++ [sg], (x.trans y).upd y7.pool hD2, ?_, ?_, ?_⟩
          · rw [upd_same, List.map_append]; rfl
          · rw [List.length_append, hlen]; rfl
          · intro z hz
            rcases List.mem_append.mp hz with h | h
            · exact hone z h
            · rw [List.mem_singleton.mp h]; exact hsg
        · rintro H8 ⟨row, x8, hd8, hlen8, hone8⟩
          have h38 : H8 p3 = some (.lst [.str ⟨#[sg2]⟩]) := (y7.trans x8).keep _ _ (PX.ne hp3').1 upd_same
          refine ⟨p3, D2, _, _, rfl, rfl, h38, hd8, (by rw [List.length_map]; show 1 + row.length ≤ _; exact small (by omega)), fun p4 hp4 => ?_⟩
          have z8 : Ext l c H' H8 := z3.trans (y7.trans x8)
          exact ⟨p4, sg2, row, rfl, z8.new PX hp4, z8.free PX hp4, upd_same, hsg2, hone8, by omega⟩
      · rintro σ' H9 ⟨rw_, s0, row, rfl, x9, hrn, hr9, hs0L, hone, hl12⟩
        have nrl : rw_ ≠ l := (PX.ne hrn).1
        -- row[min(at, len(row) - 1)] = ..
        refine ⟨_, rfl, vTake rfl x9.pool (by decide) (by decide) fun d3 H10 d30 d31 y10 => strAt LET let_len (by decide) d30 d31 fun sg3 hsg3 => ?_⟩
        have hr10 : H10 rw_ = some (.lst ((s0 :: row).map (fun s => V.str (one s)))) := y10.keep _ _ nrl hr9
        refine ⟨_, rfl, _, rfl, _, rfl, rw_, _, rfl, .inl (SqL.of hr10), _, _, rfl, rfl, _, _, rfl, ?_⟩
        have hrl : (((s0 :: row).map (fun s => V.str (one s))).length : Int) = row.length + 1 := by rw [List.length_map, List.length_cons]; rfl
        refine ⟨rw_, _, _, _, rfl, rfl, hr10, ixN_of (by split <;> omega) (by split <;> omega), ?_⟩
        generalize (if ((((s0 :: row).map (fun s => V.str (one s))).length : Nat) : Int) - 1 < at_ then ((((s0 :: row).map (fun s => V.str (one s))).length : Nat) : Int) - 1 else at_).toNat = jz
        obtain ⟨s1, r1, e1, hs1L, ho1, hl1⟩ := set_hd hs0L hone hsg3 jz
        have es : ((s0 :: row).map (fun s => V.str (one s))).set jz (V.str ⟨#[sg3]⟩) = ((s1 :: r1).map one).map V.str := by
          rw [← e1, List.map_map]
          exact (List.map_set ..).symm
        rw [es]
        have zX : Ext l c H' (upd H10 rw_ (.lst (((s1 :: r1).map one).map V.str))) := (x9.trans y10).upd PX hrn
        generalize hHX : upd H10 rw_ (.lst (((s1 :: r1).map one).map V.str)) = HX at zX
        have hrX : HX rw_ = some (.lst (((s1 :: r1).map one).map V.str)) := by rw [← hHX]; exact upd_same
        -- word = ''.join(row)
        refine ⟨⟨_, rfl⟩, _, rfl, "", rw_, (s1 :: r1).map one, rfl, rfl, .inl (SqL.of hrX), by rw [one_sum, List.length_cons]; show _ + _ * 0 ≤ _; omega, ?_⟩
        have ul : Wd (Txt.join "" ((s1 :: r1).map one)) := Wd.of (txt_join _) hs1L ho1 (by omega)
        have hwX : HX wd = some (.lst (ws.map V.str)) := zX.keep _ _ newd hw
        have hbX : HX bt = some (.tup (BARRED.map V.str)) := zX.keep _ _ (P0.ne hbt).1 hbtX
        generalize Txt.join "" ((s1 :: r1).map one) = u0 at ul ⊢
        -- the loop that seeks a new word
        refine ⟨fun σ' H'' => ∃ (u : Str) (mo : Option V), σ' = [some (.ref l), some (.int m), some (.str LET), some (.str OTH), some (.ref bt), some (.int size), some (.int at_), some (.int al), some (.int (0 + (i : Int))), some (.ref D), some (.ref wd), some (.ref rw_), some (.str u), mo, none] ∧
          H'' = HX ∧ u ∉ ws ∧ Wd u ∧ u ∉ BARRED, ?_, ?_⟩
        · refine ⟨_, rfl, _, _, rfl, rfl, _, rfl, by omega, by omega, for_range (lo := 0) (n := ((m : Int) + 1).toNat) (fun j σ H'' => ∃ (u : Str) (mo : Option V), σ = [some (.ref l), some (.int m), some (.str LET), some (.str OTH), some (.ref bt), some (.int size), some (.int at_), some (.int al), some (.int (0 + (i : Int))), some (.ref D), some (.ref wd), some (.ref rw_), some (.str u), mo, none] ∧
            H'' = HX ∧ Wd u ∧ (1 ≤ j → u = cand (j - 1) i) ∧ ∀ t, t + 1 < j → cand t i ∈ ws) ?_ ?_ ?_⟩
          · exact ⟨u0, _, rfl, rfl, ul, by omega, by omega⟩
          · rintro j σ H'' hj ⟨u, mo, rfl, rfl, hu, hc, ht⟩
            have hj' : j < m + 1 := by omega
            have nxt : (u ∈ ws ∨ u ∈ BARRED) → ∀ t, t + 1 < j + 1 → cand t i ∈ ws := fun h t h1 => by
              by_cases e : t + 1 < j
              · exact ht t e
              · have e2 : j - 1 = t := by omega
                have e3 := hc (by omega)
                rw [e2] at e3
                rcases h with h | h
                · rw [← e3]; exact h
                · rw [e3] at h; exact absurd h (cand_bar t i)
            -- the next word that is tried
            have go : (u ∈ ws ∨ u ∈ BARRED) → ∃ (u' : Str) (mo' : Option V), [some (V.ref l), some (V.int m), some (V.str LET), some (V.str OTH), some (V.ref bt), some (V.int size), some (V.int at_), some (V.int al), some (V.int (0 + (i : Int))), some (V.ref D), some (V.ref wd), some (V.ref rw_), some (V.str (("w" : Str) ++ (toString (0 + (j : Int)) : Str) ++ ("_" : Str) ++ (toString (0 + (i : Int)) : Str))), some (V.int (0 + (j : Int))), none] = [some (.ref l), some (.int m), some (.str LET), some (.str OTH), some (.ref bt), some (.int size), some (.int at_), some (.int al), some (.int (0 + (i : Int))), some (.ref D), some (.ref wd), some (.ref rw_), some (.str u'), mo', none] ∧
                H'' = H'' ∧ Wd u' ∧ (1 ≤ j + 1 → u' = cand (j + 1 - 1) i) ∧ ∀ t, t + 1 < j + 1 → cand t i ∈ ws := fun h => by
              have e : (("w" : Str) ++ (toString (0 + (j : Int)) : Str) ++ ("_" : Str) ++ (toString (0 + (i : Int)) : Str)) = cand j i := by rw [Int.zero_add, Int.zero_add]; rfl
              have hl := cand_len (j := j) (k := i) (by omega) (by omega)
              exact ⟨_, _, rfl, rfl, by rw [e]; exact cand_wd (by omega) (by omega), fun _ => e, nxt h⟩
            have lj := str_len j (by omega)
            have li := str_len i (by omega)
            have lgj : (0 + (j : Int)).natAbs.log2 < 1920 := Nat.lt_of_lt_of_le (PySem.Flt.log2_lt_of (k := 5) (by decide) (by show (0 + (j : Int)).natAbs < 32; omega)) (by decide)
            have lgi : (0 + (i : Int)).natAbs.log2 < 1920 := Nat.lt_of_lt_of_le (PySem.Flt.log2_lt_of (k := 5) (by decide) (by show (0 + (i : Int)).natAbs < 32; omega)) (by decide)
            refine ⟨_, rfl, _, rfl, wd, _, rfl, .inl (SqL.of hwX), rfl, flat_strs _, _, rfl, ?_⟩
            rw [inV_str]
            by_cases h1 : u ∈ ws
            · rw [decide_eq_true h1]
              exact iteF ⟨_, rfl, _, rfl, lgj, _, _, rfl, rfl, small (by rw [Int.zero_add]; show 1 + _ ≤ _; omega), _, _, rfl, rfl, small (by rw [Int.zero_add, Str.length_append]; show 1 + _ + 1 ≤ _; omega), _, rfl, _, rfl, lgi, _, _, rfl, rfl, small (by rw [Int.zero_add, Int.zero_add, Str.length_append, Str.length_append]; show 1 + _ + 1 + _ ≤ _; omega), go (.inl h1)⟩
            · rw [decide_eq_false h1]
              refine iteT ⟨_, rfl, _, rfl, bt, _, rfl, .inr (SqT.of hbX), rfl, flat_strs _, _, rfl, ?_⟩
              rw [inV_str]
              by_cases h2 : u ∈ BARRED
              · rw [decide_eq_true h2]
                exact iteF ⟨_, rfl, _, rfl, lgj, _, _, rfl, rfl, small (by rw [Int.zero_add]; show 1 + _ ≤ _; omega), _, _, rfl, rfl, small (by rw [Int.zero_add, Str.length_append]; show 1 + _ + 1 ≤ _; omega), _, rfl, _, rfl, lgi, _, _, rfl, rfl, small (by rw [Int.zero_add, Int.zero_add, Str.length_append, Str.length_append]; show 1 + _ + 1 + _ ≤ _; omega), go (.inr h2)⟩
              · rw [decide_eq_false h2]
                exact iteT ⟨u, _, rfl, rfl, h1, hu, h2⟩
          · rintro σ H'' ⟨u, mo, rfl, rfl, hu, hc, ht⟩
            exact (pigeon (m := m) (k := i) (by omega) (by omega) fun t h => ht t (by omega)).elim
        · rintro σ' H'' ⟨u, mo, rfl, rfl, hu, hul, hub⟩
          refine ⟨_, rfl, .inl ⟨rfl, _, SqL.of hwX⟩, _, rfl, wd, _, _, rfl, rfl, hwX, by rw [List.length_map]; exact smallL (by omega), ?_⟩
          refine ⟨ws ++ [u], _, _, _, _, rfl, (x.trans zX).upd PB hwd, ?_, by rw [List.length_append, hwl]; rfl, nd_snoc hwn hu, fun z hz => ?_⟩
          · rw [upd_same, List.map_append]; rfl
          · rcases List.mem_append.mp hz with h | h
            · exact hw12 z h
            · rw [List.mem_singleton.mp h]; exact ⟨hul, hub⟩
    · rintro σ H' ⟨ws, k', r', w', m', rfl, x, hw, hwl, hwn, hw12⟩
      refine ⟨_, rfl, q H' wd ws (xB.trans x) (xB.free P0 hwd) hw hwl hwn hw12⟩
end
end PK
namespace PK
open PySem L2
/-! _law_same -/
section
variable {K : PySem.W.Frag} {H H' : Hp}
mutual
theorem Dp.mono (hT : ∀ a xs, SqT K H a xs → SqT K H' a xs) (hL : ∀ a xs, SqL K H a xs → SqL K H' a xs) : ∀ (d : PyData) (v : V), Dp K H v d → Dp K H' v d
  | .none, _, h => by cases h; exact .non
  | .bool _, _, h => by cases h; exact .bl _
  | .int _, _, h => by cases h; exact .int _
  | .str _, _, h => by cases h; exact .str _
  | .dict _, _, h => by cases h
  | .list ds, _, h => by
    cases h with
    | lst s a => exact .lst (hL _ _ s) (DpAll.mono hT hL ds _ a)
  | .tuple ds, _, h => by
    cases h with
    | tup s a => exact .tup (hT _ _ s) (DpAll.mono hT hL ds _ a)
theorem DpAll.mono (hT : ∀ a xs, SqT K H a xs → SqT K H' a xs) (hL : ∀ a xs, SqL K H a xs → SqL K H' a xs) : ∀ (ds : List PyData) (vs : List V), DpAll K H vs ds → DpAll K H' vs ds
  | [], _, h => by cases h; exact .nil
  | d :: ds, _, h => by
    cases h with
    | cons h1 h2 => exact .cons (Dp.mono hT hL d _ h1) (DpAll.mono hT hL ds _ h2)
end
theorem Dp.same {d : PyData} {v : V} (h : Dp K H v d) (e : Same H H') : Dp K H' v d := Dp.mono (fun _ _ q => Same.seqT e q) (fun _ _ q => e.seq q) d v h
theorem DpAll.length : ∀ {xs : List V} {ds : List PyData}, DpAll K H xs ds → xs.length = ds.length
  | _, _, .nil => rfl
  | _, _, .cons _ t => by rw [List.length_cons, List.length_cons, DpAll.length t]
theorem DpAll.get : ∀ {xs : List V} {ds : List PyData} {i : Nat} {d : PyData}, DpAll K H xs ds → ds[i]? = some d → ∃ x, xs[i]? = some x ∧ Dp K H x d
  | _, _, _, _, .nil, e => by simp at e
  | _, _, 0, _, .cons h _, e => by simp at e; subst e; exact ⟨_, rfl, h⟩
  | _, _, i + 1, _, .cons _ t, e => by
    obtain ⟨d, h1, h2⟩ := DpAll.get (i := i) t (by simpa using e)
    exact ⟨d, by simpa using h1, h2⟩
end
theorem depth_get : ∀ {ds : List PyData} {i : Nat} {d : PyData}, ds[i]? = some d → d.depth ≤ PyData.depthAll ds
  | [], _, _, e => by simp at e
  | x :: r, 0, d, e => by
    simp at e; subst e
    show _ ≤ max _ _
    exact Nat.le_max_left _ _
  | x :: r, i + 1, d, e => by
    have ih := depth_get (ds := r) (i := i) (d := d) (by simpa using e)
    show _ ≤ max _ _
    exact Nat.le_trans ih (Nat.le_max_right _ _)
mutual
/-- no list in it is long -/
def slim : PyData → Bool
  | .none | .bool _ | .int _ | .str _ => true
  | .list xs | .tuple xs => decide (xs.length ≤ 1000) && slimAll xs
  | .dict _ => false
def slimAll : List PyData → Bool
  | [] => true
  | x :: xs => slim x && slimAll xs
end
theorem slim_get : ∀ {ds : List PyData} {i : Nat} {d : PyData}, slimAll ds = true → ds[i]? = some d → slim d = true
  | [], _, _, _, e => by simp at e
  | x :: r, 0, d, h, e => by
    simp at e; subst e
    unfold slimAll at h
    exact (Bool.and_eq_true_iff.mp h).1
  | x :: r, i + 1, d, h, e => by
    unfold slimAll at h
    exact slim_get (ds := r) (i := i) (Bool.and_eq_true_iff.mp h).2 (by simpa using e)
theorem slim_seq {ds : List PyData} (h : slim (.tuple ds) = true) : ds.length ≤ 1000 ∧ slimAll ds = true := by
  unfold slim at h
  exact ⟨of_decide_eq_true (Bool.and_eq_true_iff.mp h).1, (Bool.and_eq_true_iff.mp h).2⟩
theorem slim_lst {ds : List PyData} (h : slim (.list ds) = true) : ds.length ≤ 1000 ∧ slimAll ds = true := by
  unfold slim at h
  exact ⟨of_decide_eq_true (Bool.and_eq_true_iff.mp h).1, (Bool.and_eq_true_iff.mp h).2⟩
def spSame (K : PySem.W.Frag) (n : Nat) : Sp := fun vs H Q _ => ∃ (x y : V) (d : PyData), vs = [x, y] ∧ Dp K H x d ∧ Dp K H y d ∧ d.depth < n ∧ slim d = true ∧ ∀ H', Same H H' → Q (.bl true) H'
theorem bF {b : Bool} {A B : Prop} (h : B) : if (!decide (V.bl b = V.bl b)) = true then A else B := by
  rw [decide_eq_true rfl]; exact iteF h
section
variable {P : Program} {w : World} {K : PySem.W.Frag} {mg : Str → Option Value} {base : Heap}
abbrev s_law_same : Stmt := topS 51
theorem sc_law_same : FnScope ["actual", "due", "k"] ["actual", "due"] (defScope s_law_same) := ⟨rfl, rfl, rfl, by decide +kernel, rfl, by decide +kernel, by decide +kernel⟩
-- slots: 0:actual(cell) 1:due(cell) 2:k(comp)
theorem ok_same {n : Nat} {f : Addr} {fd : FuncData} (F : Fun K "_law_same" "_law_same" s_law_same f fd) (T : Txt K mg) (C_law_same : C8.Cal P w K mg base n "_law_same" (spSame K n) []) :
    FnOk P w K mg base CX0 (n + 1) f fd ["actual", "due"] (spSame K (n + 1)) := by
  refine F.ok sc_law_same (fun vs H Q E h => ?_) (fun cdv A outer s H vs Q E hr h => ?_)
  · obtain ⟨x, y, d, rfl, _⟩ := h
    rfl
  obtain ⟨x, y, d, rfl, hx, hy, hd, hsl, q⟩ := h
  refine ⟨_, (pss_cons (ps_if (pt_cmpR op_isN (pv 1) pe_non (nomark _)) (pss_one (ps_ret (pe_cmpR op_isN (pv 0) pe_non (nomark _)))) pss_nil)
    (pss_cons (ps_if (PW.pt (pw_or (pt_cmpR op_ne (pe_callB call_isi (by rfl) T.z_isinstance (by decide +kernel) (pa_cons (pv 1) (pa_cons (pe_bltn (v := .ty "tuple") (by rfl) T.z_tuple (by decide +kernel) rfl) pa_nil))) (pe_callB call_isi (by rfl) T.z_isinstance (by decide +kernel) (pa_cons (pv 0) (pa_cons (pe_bltn (v := .ty "tuple") (by rfl) T.z_tuple (by decide +kernel) rfl) pa_nil))) (nomark _)) (pw_or1 (pt_cmpR op_ne (pe_callB call_isi (by rfl) T.z_isinstance (by decide +kernel) (pa_cons (pv 1) (pa_cons (pe_bltn (v := .ty "list") (by rfl) T.z_list (by decide +kernel) rfl) pa_nil))) (pe_callB call_isi (by rfl) T.z_isinstance (by decide +kernel) (pa_cons (pv 0) (pa_cons (pe_bltn (v := .ty "list") (by rfl) T.z_list (by decide +kernel) rfl) pa_nil))) (nomark _))))) (pss_one (ps_ret pe_bl)) pss_nil)
    (pss_cons (ps_if (PW.pt (pw_or (pt_val (pe_callB call_isi (by rfl) T.z_isinstance (by decide +kernel) (pa_cons (pv 1) (pa_cons (pe_bltn (v := .ty "tuple") (by rfl) T.z_tuple (by decide +kernel) rfl) pa_nil)))) (pw_or1 (pt_val (pe_callB call_isi (by rfl) T.z_isinstance (by decide +kernel) (pa_cons (pv 1) (pa_cons (pe_bltn (v := .ty "list") (by rfl) T.z_list (by decide +kernel) rfl) pa_nil))))))) (pss_one (ps_ret (pe_and (pe_cmpR op_eq (pe_callB call_len_seq (by rfl) T.z_len (by decide +kernel) (pa_cons (pv 0) pa_nil)) (pe_callB call_len_seq (by rfl) T.z_len (by decide +kernel) (pa_cons (pv 1) pa_nil)) (nomark _)) (pe_one (pe_callB (cr_all (by rfl)) (by rfl) T.z_all (by decide +kernel) (pa_cons (pe_lc (own := [("k", 2)]) (g := (gName 2)) (tt := tYes) (by rfl) sc_law_same.nd (pi_range1 (by rfl) T.z_range (pa_cons (pe_callB call_len_seq (by rfl) T.z_len (by decide +kernel) (pa_cons (pv 1) pa_nil)) pa_nil)) (blkOk_by (N := ["actual", "due", "k"]) (sc := defScope s_law_same) (by decide +kernel)) (fun _ _ _ _ _ => (pg_name (i := 2) sc_law_same.nd rfl (Or.inl rfl))) (fun _ _ _ _ _ => pts_nil) (fun _ _ _ _ _ => (C8.pe_c C_law_same hr (by omega) rfl (pa_cons (pe_ix (r := rIx K) ix_seq (pv 0) (pv 2) (fun _ _ => rfl)) (pa_cons (pe_ix (r := rIx K) ix_seq (pv 1) (pv 2) (fun _ _ => rfl)) pa_nil))))) pa_nil)))))) pss_nil)
    (pss_cons (ps_if (PW.pt (pw_or (pt_cmpR op_ne (pe_callB call_isi (by rfl) T.z_isinstance (by decide +kernel) (pa_cons (pv 1) (pa_cons (pe_bltn (v := .ty "bool") (by rfl) T.z_bool (by decide +kernel) rfl) pa_nil))) (pe_callB call_isi (by rfl) T.z_isinstance (by decide +kernel) (pa_cons (pv 0) (pa_cons (pe_bltn (v := .ty "bool") (by rfl) T.z_bool (by decide +kernel) rfl) pa_nil))) (nomark _)) (pw_or1 (pt_cmpR op_ne (pe_callB call_isi (by rfl) T.z_isinstance (by decide +kernel) (pa_cons (pv 1) (pa_cons (pe_bltn (v := .ty "str") (by rfl) T.z_str (by decide +kernel) rfl) pa_nil))) (pe_callB call_isi (by rfl) T.z_isinstance (by decide +kernel) (pa_cons (pv 0) (pa_cons (pe_bltn (v := .ty "str") (by rfl) T.z_str (by decide +kernel) rfl) pa_nil))) (nomark _))))) (pss_one (ps_ret pe_bl)) pss_nil)
    (pss_one (ps_ret (pe_and (pe_cmpR op_eq (pe_callB call_isi (by rfl) T.z_isinstance (by decide +kernel) (pa_cons (pv 1) (pa_cons (pe_bltn (v := .ty "int") (by rfl) T.z_int (by decide +kernel) rfl) pa_nil))) (pe_callB call_isi (by rfl) T.z_isinstance (by decide +kernel) (pa_cons (pv 0) (pa_cons (pe_bltn (v := .ty "int") (by rfl) T.z_int (by decide +kernel) rfl) pa_nil))) (nomark _)) (pe_one (pe_cmpR op_eq (pv 0) (pv 1) (nomark _)))))))))), ?_⟩
  have q0 := q H (Same.refl H)
  -- what is left for a scalar
  cases d with
  | none =>
    cases hx; cases hy
    exact ⟨_, rfl, rfl, _, rfl, iteT ⟨_, rfl, rfl, q0⟩⟩
  | bool b =>
    cases hx; cases hy
    have ty : TyX K H (.bl b) (.type "bool") := .base (.bl b)
    refine ⟨_, rfl, rfl, _, rfl, iteF (vIsi rfl ty (b := false) (by decide +kernel) (vIsi rfl ty (b := false) (by decide +kernel) ⟨rfl, _, rfl, bF (vIsi rfl ty (b := false) (by decide +kernel) (vIsi rfl ty (b := false) (by decide +kernel) ⟨rfl, _, rfl, bF ?_⟩))⟩))⟩
    refine vIsi rfl ty (b := false) (by decide +kernel) ⟨_, rfl, iteF (vIsi rfl ty (b := false) (by decide +kernel) ⟨_, rfl, iteF ?_⟩)⟩
    refine vIsi rfl ty (b := true) (by decide +kernel) (vIsi rfl ty (b := true) (by decide +kernel) ⟨rfl, _, rfl, bF (vIsi rfl ty (b := false) (by decide +kernel) (vIsi rfl ty (b := false) (by decide +kernel) ⟨rfl, _, rfl, bF ?_⟩))⟩)
    refine vIsi rfl ty (b := true) (by decide +kernel) (vIsi rfl ty (b := true) (by decide +kernel) ⟨rfl, _, rfl, ?_⟩)
    refine iteT ⟨_, rfl, _, rfl, rfl, ?_⟩
    rw [decide_eq_true rfl]
    exact q0
  | int b =>
    cases hx; cases hy
    have ty : TyX K H (.int b) (.type "int") := .base (.int b)
    refine ⟨_, rfl, rfl, _, rfl, iteF (vIsi rfl ty (b := false) (by decide +kernel) (vIsi rfl ty (b := false) (by decide +kernel) ⟨rfl, _, rfl, bF (vIsi rfl ty (b := false) (by decide +kernel) (vIsi rfl ty (b := false) (by decide +kernel) ⟨rfl, _, rfl, bF ?_⟩))⟩))⟩
    refine vIsi rfl ty (b := false) (by decide +kernel) ⟨_, rfl, iteF (vIsi rfl ty (b := false) (by decide +kernel) ⟨_, rfl, iteF ?_⟩)⟩
    refine vIsi rfl ty (b := false) (by decide +kernel) (vIsi rfl ty (b := false) (by decide +kernel) ⟨rfl, _, rfl, bF (vIsi rfl ty (b := false) (by decide +kernel) (vIsi rfl ty (b := false) (by decide +kernel) ⟨rfl, _, rfl, bF ?_⟩))⟩)
    refine vIsi rfl ty (b := true) (by decide +kernel) (vIsi rfl ty (b := true) (by decide +kernel) ⟨rfl, _, rfl, ?_⟩)
    refine iteT ⟨_, rfl, _, rfl, rfl, ?_⟩
    rw [decide_eq_true rfl]
    exact q0
  | str b =>
    cases hx; cases hy
    have ty : TyX K H (.str b) (.type "str") := .base (.str b)
    refine ⟨_, rfl, rfl, _, rfl, iteF (vIsi rfl ty (b := false) (by decide +kernel) (vIsi rfl ty (b := false) (by decide +kernel) ⟨rfl, _, rfl, bF (vIsi rfl ty (b := false) (by decide +kernel) (vIsi rfl ty (b := false) (by decide +kernel) ⟨rfl, _, rfl, bF ?_⟩))⟩))⟩
    refine vIsi rfl ty (b := false) (by decide +kernel) ⟨_, rfl, iteF (vIsi rfl ty (b := false) (by decide +kernel) ⟨_, rfl, iteF ?_⟩)⟩
    refine vIsi rfl ty (b := false) (by decide +kernel) (vIsi rfl ty (b := false) (by decide +kernel) ⟨rfl, _, rfl, bF (vIsi rfl ty (b := true) (by decide +kernel) (vIsi rfl ty (b := true) (by decide +kernel) ⟨rfl, _, rfl, bF ?_⟩))⟩)
    refine vIsi rfl ty (b := false) (by decide +kernel) (vIsi rfl ty (b := false) (by decide +kernel) ⟨rfl, _, rfl, ?_⟩)
    refine iteT ⟨_, rfl, _, rfl, rfl, ?_⟩
    rw [decide_eq_true rfl]
    exact q0
  | dict kvs => cases hx
  | tuple ds =>
    cases hx with
    | tup sx ax =>
    cases hy with
    | tup sy ay =>
    rename_i px xs py ys
    have tx := ty_tup sx
    have ty := ty_tup sy
    have lx := DpAll.length ax
    have ly := DpAll.length ay
    have hd' : PyData.depthAll ds + 1 < n + 1 := hd
    obtain ⟨hz, hsa⟩ := slim_seq hsl
    refine ⟨_, rfl, rfl, _, rfl, iteF (vIsi rfl ty (b := true) (by decide +kernel) (vIsi rfl tx (b := true) (by decide +kernel) ⟨rfl, _, rfl, bF (vIsi rfl ty (b := false) (by decide +kernel) (vIsi rfl tx (b := false) (by decide +kernel) ⟨rfl, _, rfl, bF ?_⟩))⟩))⟩
    refine vIsi rfl ty (b := true) (by decide +kernel) ⟨_, rfl, iteT (iteT ?_)⟩
    refine ⟨_, rfl, px, _, rfl, .inr sx, _, rfl, py, _, rfl, .inr sy, rfl, _, rfl, ?_⟩
    rw [show xs.length = ys.length by omega, decide_eq_true rfl]
    refine iteT ⟨_, rfl, py, _, rfl, .inr sy, _, rfl, by omega, by omega, fun D hD => lc_range (lo := 0) (n := ((ys.length : Nat) : Int).toNat) (fun i H' => i ≤ ys.length ∧ Same H H' ∧ H' D = some (.lst ((List.replicate i true).map V.bl))) ?_ ?_ ?_⟩
    · exact ⟨Nat.zero_le _, same_new hD, upd_same⟩
    · rintro i H' hi ⟨_, sm, hl⟩
      have hi' : i < ys.length := by omega
      have hi2 : i < ds.length := by omega
      have gd : ds[i]? = some ds[i] := List.getElem?_eq_getElem hi2
      obtain ⟨x1, gx, dx⟩ := DpAll.get ax gd
      obtain ⟨y1, gy, dy⟩ := DpAll.get ay gd
      have dd := depth_get gd
      have e0 : (0 : Int) + (i : Int) = (i : Int) := Int.zero_add _
      refine ⟨rfl, yes_ ⟨_, rfl, _, rfl, .inr (.inl ⟨px, xs, _, x1, rfl, rfl, Same.seqT sm sx, by rw [e0]; exact atI_nat gx, ?_⟩)⟩⟩
      refine ⟨_, rfl, _, rfl, .inr (.inl ⟨py, ys, _, y1, rfl, rfl, Same.seqT sm sy, by rw [e0]; exact atI_nat gy, ?_⟩)⟩
      refine ⟨x1, y1, ds[i], rfl, Dp.same dx sm, Dp.same dy sm, by omega, slim_get hsa gd, fun H2 s2 => ⟨_, s2 _ _ hl, ?_, hi', Same.upd (sm.trans s2) hD, ?_⟩⟩
      · rw [List.length_map, List.length_replicate]; exact smallL (by omega)
      · rw [upd_same, List.replicate_succ', List.map_append]; rfl
    · rintro H' ⟨_, sm, hl⟩
      refine ⟨D, _, rfl, SqL.of hl, ?_⟩
      have e2 : (List.replicate ((ys.length : Nat) : Int).toNat true).all id = true := by simp
      rw [e2]
      exact q H' sm
  | list ds =>
    cases hx with
    | lst sx ax =>
    cases hy with
    | lst sy ay =>
    rename_i px xs py ys
    have tx := ty_lst sx
    have ty := ty_lst sy
    have lx := DpAll.length ax
    have ly := DpAll.length ay
    have hd' : PyData.depthAll ds + 1 < n + 1 := hd
    obtain ⟨hz, hsa⟩ := slim_lst hsl
    refine ⟨_, rfl, rfl, _, rfl, iteF (vIsi rfl ty (b := false) (by decide +kernel) (vIsi rfl tx (b := false) (by decide +kernel) ⟨rfl, _, rfl, bF (vIsi rfl ty (b := true) (by decide +kernel) (vIsi rfl tx (b := true) (by decide +kernel) ⟨rfl, _, rfl, bF ?_⟩))⟩))⟩
    refine vIsi rfl ty (b := false) (by decide +kernel) ⟨_, rfl, iteF (vIsi rfl ty (b := true) (by decide +kernel) ⟨_, rfl, iteT ?_⟩)⟩
    refine ⟨_, rfl, px, _, rfl, .inl sx, _, rfl, py, _, rfl, .inl sy, rfl, _, rfl, ?_⟩
    rw [show xs.length = ys.length by omega, decide_eq_true rfl]
    refine iteT ⟨_, rfl, py, _, rfl, .inl sy, _, rfl, by omega, by omega, fun D hD => lc_range (lo := 0) (n := ((ys.length : Nat) : Int).toNat) (fun i H' => i ≤ ys.length ∧ Same H H' ∧ H' D = some (.lst ((List.replicate i true).map V.bl))) ?_ ?_ ?_⟩
    · exact ⟨Nat.zero_le _, same_new hD, upd_same⟩
    · rintro i H' hi ⟨_, sm, hl⟩
      have hi' : i < ys.length := by omega
      have hi2 : i < ds.length := by omega
      have gd : ds[i]? = some ds[i] := List.getElem?_eq_getElem hi2
      obtain ⟨x1, gx, dx⟩ := DpAll.get ax gd
      obtain ⟨y1, gy, dy⟩ := DpAll.get ay gd
      have dd := depth_get gd
      have e0 : (0 : Int) + (i : Int) = (i : Int) := Int.zero_add _
      refine ⟨rfl, yes_ ⟨_, rfl, _, rfl, .inl (id ⟨px, xs, _, x1, rfl, rfl, sm.seq sx, by rw [e0]; exact atI_nat gx, ?_⟩)⟩⟩
      refine ⟨_, rfl, _, rfl, .inl (id ⟨py, ys, _, y1, rfl, rfl, sm.seq sy, by rw [e0]; exact atI_nat gy, ?_⟩)⟩
      refine ⟨x1, y1, ds[i], rfl, Dp.same dx sm, Dp.same dy sm, by omega, slim_get hsa gd, fun H2 s2 => ⟨_, s2 _ _ hl, ?_, hi', Same.upd (sm.trans s2) hD, ?_⟩⟩
      · rw [List.length_map, List.length_replicate]; exact smallL (by omega)
      · rw [upd_same, List.replicate_succ', List.map_append]; rfl
    · rintro H' ⟨_, sm, hl⟩
      refine ⟨D, _, rfl, SqL.of hl, ?_⟩
      have e2 : (List.replicate ((ys.length : Nat) : Int).toNat true).all id = true := by simp
      rw [e2]
      exact q H' sm
end
end PK
namespace PK
open PySem L2
/-! the box that rules are drawn from -/
structure Con where
  nm : Str
  ar : Nat
  kd : Str
  pl : List Int
def Con.d (c : Con) : PyData := .tuple [.str c.nm, .int (c.ar : Nat), .str c.kd, .tuple (c.pl.map .int)]
/-- places as a constructor may have them -/
def plOk (m : Nat) (ps : List Int) : Prop := ps.Nodup ∧ (∀ p ∈ ps, 0 ≤ p ∧ p < (m : Int)) ∧ ps.length ≤ m
theorem plOk.put {i : Nat} {ns : List Int} (h : plOk i ns) (e : Nat) : plOk (i + 1) (ns.take e ++ [0 + (i : Int)] ++ ns.drop e) := by
  have per : (ns.take e ++ [0 + (i : Int)] ++ ns.drop e).Perm ((0 + (i : Int)) :: ns) := by
    rw [List.append_assoc, List.singleton_append]
    refine List.perm_middle.trans ?_
    rw [List.take_append_drop]
  refine ⟨per.nodup_iff.mpr (List.nodup_cons.mpr ⟨fun z => ?_, h.1⟩), fun p hp => ?_, by rw [per.length_eq, List.length_cons]; have := h.2.2; omega⟩
  · have := (h.2.1 _ z).2; omega
  · rcases List.mem_cons.mp (per.mem_iff.mp hp) with e1 | e1
    · omega
    · have := h.2.1 p e1; omega
theorem plOk.more {i : Nat} {ns : List Int} (h : plOk i ns) : plOk (i + 1) ns := ⟨h.1, fun p hp => by have := h.2.1 p hp; omega, by have := h.2.2; omega⟩
/-- a constructor as it was drawn -/
structure Con.ok (x : Con) : Prop where
  kd : x.kd ∈ (["value", "plain"] : List Str)
  pl : plOk x.ar x.pl
  ar : x.ar ≤ 3
/-- a list of words at p, not the pool -/
structure Nm (H : Hp) (l p : Addr) (ws : List Str) : Prop where
  at_ : H p = some (.lst (ws.map V.str))
  ne : p ≠ l
  ne0 : 1 ≤ ws.length
  le : ws.length ≤ 25
  wd : ∀ x ∈ ws, Wd x
theorem Nm.ext {H H' : Hp} {l c p : Addr} {ws : List Str} (N : Nm H l p ws) (x : Ext l c H H') : Nm H' l p ws := ⟨x.keep _ _ N.ne N.at_, N.ne, N.ne0, N.le, N.wd⟩
/-- atoms as they are drawn -/
def atB (ns : List Str) : Tm → Prop
  | .int n => -(10 ^ 15) < n ∧ n < 10 ^ 15
  | .name s => s ∈ ns
  | .addr n => 0 ≤ n ∧ n < 10 ^ 9
  | _ => False
theorem atB.kids {ns : List Str} {t : Tm} (h : atB ns t) : t.kids = [] := by cases t <;> first | rfl | exact h.elim
def spNum : Sp := fun vs H Q _ => ∃ (l c : Addr), vs = [.ref l] ∧ Pool H l c ∧ ∀ (i : Int) (H' : Hp), Ext l c H H' → -(10 ^ 15) < i → i < 10 ^ 15 → Q (.int i) H'
def spAtom (K : PySem.W.Frag) : Sp := fun vs H Q _ => ∃ (l c pn : Addr) (ns : List Str), vs = [.ref l, .ref pn] ∧ Pool H l c ∧ Nm H l pn ns ∧ ∀ (v : V) (t : Tm) (H' : Hp), Ext l c H H' → Dt K H' v t.d → atB ns t → Q v H'
def spPick (K : PySem.W.Frag) : Sp := fun vs H Q _ => ∃ (l c p : Addr) (xs : List V), vs = [.ref l, .ref p] ∧ Pool H l c ∧ p ≠ l ∧ H p = some (.lst xs) ∧ xs ≠ [] ∧ xs.length ≤ 1000 ∧ ∀ (H' : Hp) (i : Nat) (x : V), Ext l c H H' → xs[i]? = some x → Q x H'
def spPickT (K : PySem.W.Frag) : Sp := fun vs H Q _ => ∃ (l c p : Addr) (xs : List V), vs = [.ref l, .ref p] ∧ Pool H l c ∧ SqT K H p xs ∧ xs ≠ [] ∧ xs.length ≤ 1000 ∧ ∀ (H' : Hp) (i : Nat) (x : V), Ext l c H H' → xs[i]? = some x → Q x H'
def spPickS (K : PySem.W.Frag) : Sp := fun vs H Q E => spPick K vs H Q E ∨ spPickT K vs H Q E
def spCons (K : PySem.W.Frag) : Sp := fun vs H Q _ => ∃ (l c pw : Addr) (ws : List Str), vs = [.ref l, .ref pw] ∧ Pool H l c ∧ pw ≠ l ∧ H pw = some (.lst (ws.map V.str)) ∧ ws.length ≤ 20 ∧
  ∀ (H' : Hp) (p : Addr) (rv : List V) (cs : List Con), Ext l c H H' → H p = none → H' p = some (.lst rv) → DtAll K H' rv (cs.map Con.d) → cs.map Con.nm = ws → (∀ x ∈ cs, x.ok) → (∀ x : Con, cs[0]? = some x → x.kd = ("value" : Str)) → (∀ x : Con, cs[1]? = some x → x.kd = ("plain" : Str)) → Q (.ref p) H'
theorem pick_str {xs : List Str} {e : Int} (h0 : 0 ≤ e) (h1 : e < (xs.length : Nat)) : ∃ m : Str, atI (xs.map V.str) e = some (.str m) ∧ m ∈ xs := by
  obtain ⟨j, rfl⟩ : ∃ j : Nat, e = j := ⟨e.toNat, by omega⟩
  have hj : j < xs.length := by omega
  exact ⟨xs[j], atI_nat (by rw [List.getElem?_map, List.getElem?_eq_getElem hj]; rfl), List.getElem_mem hj⟩
section
variable {P : Program} {w : World} {K : PySem.W.Frag} {mg : Str → Option Value} {base : Heap}
abbrev s_law_number : Stmt := topS 20
theorem sc_law_number : FnScope ["pool"] ["pool"] (defScope s_law_number) := ⟨rfl, rfl, rfl, by decide +kernel, rfl, by decide +kernel, by decide +kernel⟩
-- slots: 0:pool
abbrev s_law_atom : Stmt := topS 21
theorem sc_law_atom : FnScope ["pool", "names", "kind"] ["pool", "names"] (defScope s_law_atom) := ⟨rfl, rfl, rfl, by decide +kernel, rfl, by decide +kernel, by decide +kernel⟩
-- slots: 0:pool 1:names 2:kind
abbrev s_law_pick : Stmt := topS 24
theorem sc_law_pick : FnScope ["pool", "rows"] ["pool", "rows"] (defScope s_law_pick) := ⟨rfl, rfl, rfl, by decide +kernel, rfl, by decide +kernel, by decide +kernel⟩
-- slots: 0:pool 1:rows
abbrev s_law_constructors : Stmt := topS 22
theorem sc_law_constructors : FnScope ["pool", "words", "rows", "k", "many", "kind", "places", "place"] ["pool", "words"] (defScope s_law_constructors) := ⟨rfl, rfl, rfl, by decide +kernel, rfl, by decide +kernel, by decide +kernel⟩
-- slots: 0:pool 1:words 2:rows 3:k 4:many 5:kind 6:places 7:place
theorem ok_number {f : Addr} {fd : FuncData} (F : Fun K "_law_number" "_law_number" s_law_number f fd) (C_law_take : C8.Cal P w K mg base 2 "_law_take" (spTake 2) []) :
    FnOk P w K mg base CX0 3 f fd ["pool"] spNum := by
  refine F.ok sc_law_number (fun vs H Q E h => ?_) (fun cdv A outer s H vs Q E hr h => ?_)
  · obtain ⟨l, c, rfl, _⟩ := h
    rfl
  obtain ⟨l, c, rfl, P0, q⟩ := h
  refine ⟨_, (pss_cons (ps_if (pt_cmpR op_eq (C8.pe_c C_law_take hr (by decide) rfl (pa_cons (pv 0) (pa_cons pe_int pa_nil))) pe_int (nomark _)) (pss_one (ps_ret (pe_op op_mul (pe_op op_add (pe_op op_mul (C8.pe_c C_law_take hr (by decide) rfl (pa_cons (pv 0) (pa_cons (pe_op op_pow pe_int pe_int) pa_nil))) (pe_op op_pow pe_int pe_int)) (C8.pe_c C_law_take hr (by decide) rfl (pa_cons (pv 0) (pa_cons (pe_op op_pow pe_int pe_int) pa_nil)))) (pe_ix ix_tup (pe_tup (pa_cons pe_int (pa_cons (pe_un un_neg pe_int) pa_nil))) (C8.pe_c C_law_take hr (by decide) rfl (pa_cons (pv 0) (pa_cons pe_int pa_nil))) (fun _ _ => rfl))))) pss_nil)
    (pss_one (ps_ret (pe_op op_sub (C8.pe_c C_law_take hr (by decide) rfl (pa_cons (pv 0) (pa_cons pe_int pa_nil))) pe_int)))), ?_⟩
  have p9 : CPow 10 9 := ⟨by decide, by decide, by decide⟩
  have p6 : CPow 10 6 := ⟨by decide, by decide, by decide⟩
  refine vTake rfl P0 (by decide) (by decide) fun d H1 d0 d1 x1 => ⟨rfl, _, rfl, ?_⟩
  refine ite2 (fun _ => ?_) (fun _ => ?_)
  · refine ⟨_, rfl, _, _, rfl, rfl, p9, l, c, 10 ^ 9, False, rfl, x1.pool, by decide, by decide, .inl (Nat.le_refl 2), fun a H2 a0 a1 x2 => ?_⟩
    refine ⟨_, _, rfl, rfl, p6, _, _, rfl, rfl, .inr ⟨by decide, by decide⟩, ?_⟩
    refine ⟨_, rfl, _, _, rfl, rfl, p6, l, c, 10 ^ 6, False, rfl, x2.pool, by decide, by decide, .inl (Nat.le_refl 2), fun b H3 b0 b1 x3 => ?_⟩
    refine ⟨_, _, rfl, rfl, _, rfl, small (by show 2 ≤ _; decide), fun p hp => ?_⟩
    have x4 := (x1.trans (x2.trans x3)).new (o := .tup [.int 1, .int (-1)]) P0 hp
    refine vTake rfl x4.pool (by decide) (by decide) fun e H4 e0 e1 x5 => ?_
    have hs : SqT K H4 p [.int 1, .int (-1)] := x5.seqT x4.pool (SqT.of upd_same)
    rcases (by omega : e = 0 ∨ e = 1) with rfl | rfl
    · exact ⟨p, _, _, _, rfl, rfl, hs, rfl, _, _, rfl, rfl, .inr ⟨by decide, by decide⟩, q _ _ (x4.trans x5) (by rw [show (10 : Int) ^ Int.toNat 6 = 1000000 by decide]; omega) (by rw [show (10 : Int) ^ Int.toNat 6 = 1000000 by decide]; omega)⟩
    · exact ⟨p, _, _, _, rfl, rfl, hs, rfl, _, _, rfl, rfl, .inr ⟨by decide, by decide⟩, q _ _ (x4.trans x5) (by rw [show (10 : Int) ^ Int.toNat 6 = 1000000 by decide]; omega) (by rw [show (10 : Int) ^ Int.toNat 6 = 1000000 by decide]; omega)⟩
  · refine vTake rfl x1.pool (by decide) (by decide) fun e H2 e0 e1 x2 => ⟨_, _, rfl, rfl, q _ _ (x1.trans x2) (by omega) (by omega)⟩
theorem Nm.pick {K : PySem.W.Frag} {H H' : Hp} {l c p : Addr} {ws : List Str} (N : Nm H l p ws) (x : Ext l c H H') {d : Int} (h0 : 0 ≤ d) (h1 : d < ((ws.map V.str).length : Int)) {Q : VK} (q : ∀ y, y ∈ ws → Q (.str y) H') : rIxL K (.ref p) (.int d) H' Q := by
  rw [List.length_map] at h1
  obtain ⟨j, rfl⟩ : ∃ j : Nat, d = j := ⟨d.toNat, by omega⟩
  have hj : j < ws.length := by omega
  exact ⟨p, _, _, _, rfl, rfl, SqL.of (x.keep _ _ N.ne N.at_), atI_nat (by rw [List.getElem?_map, List.getElem?_eq_getElem hj]; rfl), q _ (List.getElem_mem hj)⟩
theorem Nm.bd {H : Hp} {l p : Addr} {ws : List Str} (N : Nm H l p ws) : (0 : Int) < ((ws.map V.str).length : Int) ∧ ((ws.map V.str).length : Int) < 18446744073709551616 := by
  rw [List.length_map]
  have := N.ne0
  have := N.le
  omega
theorem ok_atom {f : Addr} {fd : FuncData} (F : Fun K "_law_atom" "_law_atom" s_law_atom f fd) (T : Txt K mg) (C_law_take : C8.Cal P w K mg base 2 "_law_take" (spTake 2) [])
    (C_law_number : C8.Cal P w K mg base 3 "_law_number" spNum []) : FnOk P w K mg base CX0 4 f fd ["pool", "names"] (spAtom K) := by
  refine F.ok sc_law_atom (fun vs H Q E h => ?_) (fun cdv A outer s H vs Q E hr h => ?_)
  · obtain ⟨l, c, p, ws, rfl, _⟩ := h
    rfl
  obtain ⟨l, c, p, ws, rfl, P0, N, q⟩ := h
  refine ⟨_, (pss_cons (ps_set (i := 2) sc_law_atom.nd rfl (Or.inl rfl) (C8.pe_c C_law_take hr (by decide) rfl (pa_cons (pv 0) (pa_cons pe_int pa_nil))))
    (pss_cons (ps_if (pt_cmpR op_lt (pv 2) pe_int (nomark _)) (pss_one (ps_ret (pe_tup (pa_cons pe_str (pa_cons (C8.pe_c C_law_number hr (by decide) rfl (pa_cons (pv 0) pa_nil)) pa_nil))))) pss_nil)
    (pss_cons (ps_if (pt_cmpR op_eq (pv 2) pe_int (nomark _)) (pss_one (ps_ret (pe_tup (pa_cons pe_str (pa_cons (pe_ix ix_list (pv 1) (C8.pe_c C_law_take hr (by decide) rfl (pa_cons (pv 0) (pa_cons (pe_callB call_len_seq (by rfl) T.z_len (by decide +kernel) (pa_cons (pv 1) pa_nil)) pa_nil))) (fun _ _ => rfl)) pa_nil))))) pss_nil)
    (pss_one (ps_ret (pe_tup (pa_cons pe_str (pa_cons (C8.pe_c C_law_take hr (by decide) rfl (pa_cons (pv 0) (pa_cons pe_int pa_nil))) pa_nil)))))))), ?_⟩
  have two : ∀ x y : V, [x, y].length ≤ sizeLine := fun x y => small (by show 2 ≤ _; decide)
  refine vTake rfl P0 (by decide) (by decide) fun d H1 d0 d1 x1 => ⟨_, rfl, _, _, rfl, rfl, _, rfl, ?_⟩
  refine ite2 (fun _ => ?_) (fun _ => ?_)
  · refine ⟨_, rfl, l, c, rfl, x1.pool, fun i H2 x2 i0 i1 => ⟨two _ _, fun t ht => ?_⟩⟩
    refine q _ (.int i) _ ((x1.trans x2).new P0 ht) ?_ ⟨i0, i1⟩
    unfold Tm.d
    exact Dt.mk2 ht (.str _) (.int _)
  · refine ⟨_, rfl, rfl, _, rfl, ite2 (fun _ => ?_) (fun _ => ?_)⟩
    · refine ⟨_, rfl, _, rfl, _, rfl, p, _, rfl, .inl (SqL.of (N.ext x1).at_), l, c, _, False, rfl, x1.pool, N.bd.1, N.bd.2, .inl (Nat.le_refl 2), fun d H2 d0 d1 x2 => ?_⟩
      refine N.pick (x1.trans x2) d0 d1 fun y hy => ⟨two _ _, fun t ht => ?_⟩
      refine q _ (.name y) _ ((x1.trans x2).new P0 ht) ?_ hy
      unfold Tm.d
      exact Dt.mk2 ht (.str _) (.str _)
    · refine vTake rfl x1.pool (by decide) (by decide) fun e H2 e0 e1 x2 => ⟨two _ _, fun t ht => ?_⟩
      refine q _ (.addr e) _ ((x1.trans x2).new P0 ht) ?_ ⟨e0, by omega⟩
      unfold Tm.d
      exact Dt.mk2 ht (.str _) (.int _)
theorem ok_pick {f : Addr} {fd : FuncData} (F : Fun K "_law_pick" "_law_pick" s_law_pick f fd) (T : Txt K mg) (C_law_take : C8.Cal P w K mg base 2 "_law_take" (spTake 2) []) : FnOk P w K mg base CX0 3 f fd ["pool", "rows"] (spPick K) := by
  refine F.ok sc_law_pick (fun vs H Q E h => ?_) (fun cdv A outer s H vs Q E hr h => ?_)
  · obtain ⟨_, _, _, _, rfl, _⟩ := h
    rfl
  obtain ⟨l, c, p, xs, rfl, P0, np, hp, ne, ll, q⟩ := h
  refine ⟨_, (pss_one (ps_ret (pe_ix ix_seq (pv 1) (C8.pe_c C_law_take hr (by decide) rfl (pa_cons (pv 0) (pa_cons (pe_callB call_len_seq (by rfl) T.z_len (by decide +kernel) (pa_cons (pv 1) pa_nil)) pa_nil))) (fun _ _ => rfl)))), ?_⟩
  have h0 : 0 < xs.length := List.length_pos_iff.mpr ne
  refine ⟨_, rfl, _, rfl, _, rfl, p, _, rfl, .inl (SqL.of hp), l, c, _, False, rfl, P0, by omega, by omega, .inl (Nat.le_refl 2), fun d H1 d0 d1 x1 => ?_⟩
  obtain ⟨j, rfl⟩ : ∃ j : Nat, d = j := ⟨d.toNat, by omega⟩
  have hj : j < xs.length := by omega
  exact .inl ⟨p, _, _, _, rfl, rfl, SqL.of (x1.keep _ _ np hp), atI_nat (List.getElem?_eq_getElem hj), q H1 j _ x1 (List.getElem?_eq_getElem hj)⟩
theorem ok_pickT {f : Addr} {fd : FuncData} (F : Fun K "_law_pick" "_law_pick" s_law_pick f fd) (T : Txt K mg) (C_law_take : C8.Cal P w K mg base 2 "_law_take" (spTake 2) []) : FnOk P w K mg base CX0 3 f fd ["pool", "rows"] (spPickT K) := by
  refine F.ok sc_law_pick (fun vs H Q E h => ?_) (fun cdv A outer s H vs Q E hr h => ?_)
  · obtain ⟨_, _, _, _, rfl, _⟩ := h
    rfl
  obtain ⟨l, c, p, xs, rfl, P0, hp, ne, ll, q⟩ := h
  refine ⟨_, (pss_one (ps_ret (pe_ix ix_seq (pv 1) (C8.pe_c C_law_take hr (by decide) rfl (pa_cons (pv 0) (pa_cons (pe_callB call_len_seq (by rfl) T.z_len (by decide +kernel) (pa_cons (pv 1) pa_nil)) pa_nil))) (fun _ _ => rfl)))), ?_⟩
  have h0 : 0 < xs.length := List.length_pos_iff.mpr ne
  refine ⟨_, rfl, _, rfl, _, rfl, p, _, rfl, .inr hp, l, c, _, False, rfl, P0, by omega, by omega, .inl (Nat.le_refl 2), fun d H1 d0 d1 x1 => ?_⟩
  obtain ⟨j, rfl⟩ : ∃ j : Nat, d = j := ⟨d.toNat, by omega⟩
  have hj : j < xs.length := by omega
  exact .inr (.inl ⟨p, _, _, _, rfl, rfl, x1.seqT P0 hp, atI_nat (List.getElem?_eq_getElem hj), q H1 j _ x1 (List.getElem?_eq_getElem hj)⟩)
theorem ok_or {CX : CXT} {k : Nat} {f : Addr} {fd : FuncData} {ps : List Str} {s1 s2 : Sp} (a : FnOk P w K mg base CX k f fd ps s1) (b : FnOk P w K mg base CX k f fd ps s2) : FnOk P w K mg base CX k f fd ps (fun vs H Q E => s1 vs H Q E ∨ s2 vs H Q E) :=
  ⟨fun vs H Q E h => h.elim (a.len vs H Q E) (b.len vs H Q E), fun A outer s H ea us vs Q E hr e0 hb r h => h.elim (a.run A outer s H ea us vs Q E hr e0 hb r) (b.run A outer s H ea us vs Q E hr e0 hb r)⟩
theorem ok_cons {f : Addr} {fd : FuncData} (F : Fun K "_law_constructors" "_law_constructors" s_law_constructors f fd) (T : Txt K mg) (C_law_take : C8.Cal P w K mg base 2 "_law_take" (spTake 2) []) : FnOk P w K mg base CX0 3 f fd ["pool", "words"] (spCons K) := by
  refine F.ok sc_law_constructors (fun vs H Q E h => ?_) (fun cdv A outer s H vs Q E hr h => ?_)
  · obtain ⟨_, _, _, _, rfl, _⟩ := h
    rfl
  obtain ⟨l, c, pw, ws, rfl, P0, npw, hpw, lw, q⟩ := h
  refine ⟨_, (pss_cons (ps_set (i := 2) sc_law_constructors.nd rfl (Or.inl rfl) (pe_lst pa_nil))
    (pss_cons (ps_for PassesOwn.never rfl (pi_range1 (by rfl) T.z_range (pa_cons (pe_callB call_len_seq (by rfl) T.z_len (by decide +kernel) (pa_cons (pv 1) pa_nil)) pa_nil)) (pg_name (i := 3) sc_law_constructors.nd rfl (Or.inl rfl)) (pss_cons (ps_set (i := 4) sc_law_constructors.nd rfl (Or.inl rfl) (C8.pe_c C_law_take hr (by decide) rfl (pa_cons (pv 0) (pa_cons pe_int pa_nil))))
    (pss_cons (ps_set (i := 5) sc_law_constructors.nd rfl (Or.inl rfl) (pe_ix ix_tup (pe_tup (pa_cons pe_str (pa_cons pe_str pa_nil))) (C8.pe_c C_law_take hr (by decide) rfl (pa_cons (pv 0) (pa_cons pe_int pa_nil))) (fun _ _ => rfl)))
    (C8.pss_cut (ps_if (pt_cmpR op_lt (pv 3) pe_int (nomark _)) (pss_one (ps_set (i := 5) sc_law_constructors.nd rfl (Or.inl rfl) (pe_ix ix_tup (pe_tup (pa_cons pe_str (pa_cons pe_str pa_nil))) (pv 3) (fun _ _ => rfl)))) pss_nil)
    (pss_cons (ps_set (i := 6) sc_law_constructors.nd rfl (Or.inl rfl) (pe_lst pa_nil))
    (pss_cons (ps_for PassesOwn.never rfl (pi_range1 (by rfl) T.z_range (pa_cons (pv 4) pa_nil)) (pg_name (i := 7) sc_law_constructors.nd rfl (Or.inl rfl)) (pss_one (ps_if (pt_cmpR op_gt (C8.pe_c C_law_take hr (by decide) rfl (pa_cons (pv 0) (pa_cons pe_int pa_nil))) pe_int (nomark _)) (pss_one (ps_expr (pe_bm PySem.F.plainAttrs_list PySem.F.slot_list_insert PySem.F.type_list_insert mt_insert (pv 6) (pa_cons (C8.pe_c C_law_take hr (by decide) rfl (pa_cons (pv 0) (pa_cons (pe_op op_add (pe_callB call_len_seq (by rfl) T.z_len (by decide +kernel) (pa_cons (pv 6) pa_nil)) pe_int) pa_nil))) (pa_cons (pv 7) pa_nil))))) pss_nil)))
    (pss_one (ps_expr (pe_bm PySem.F.plainAttrs_list PySem.F.slot_list_append PySem.F.type_list_append mt_append (pv 2) (pa_cons (pe_tup (pa_cons (pe_ix ix_list (pv 1) (pv 3) (fun _ _ => rfl)) (pa_cons (pv 4) (pa_cons (pv 5) (pa_cons (pe_callTy call_tuple_of (by rfl) T.z_tuple (by decide +kernel) (pa_cons (pv 6) pa_nil)) pa_nil))))) pa_nil))))))))))
    (pss_one (ps_ret (pv 2))))), ?_⟩
  refine ⟨Nat.zero_le _, fun L hL => ?_⟩
  have x1 := (Ext.refl P0).new (o := .lst []) P0 hL
  have nL : L ≠ l := (P0.ne hL).1
  refine ⟨_, rfl, pw, _, rfl, .inl (SqL.of (x1.keep _ _ npw hpw)), _, rfl, by omega, by rw [List.length_map]; omega, for_range (lo := 0) (n := (((ws.map V.str).length : Nat) : Int).toNat) (fun i σ H' => ∃ (cs : List Con) (cv : List V) (o3 o4 o5 o6 o7 : Option V), σ = [some (.ref l), some (.ref pw), some (.ref L), o3, o4, o5, o6, o7] ∧ Ext l c H H' ∧ H' L = some (.lst cv) ∧ DtAll K H' cv (cs.map Con.d) ∧ cs.map Con.nm = ws.take i ∧ (∀ x ∈ cs, x.ok) ∧ (∀ x : Con, cs[0]? = some x → x.kd = ("value" : Str)) ∧ (∀ x : Con, cs[1]? = some x → x.kd = ("plain" : Str))) ?_ ?_ ?_⟩
  · exact ⟨[], [], _, _, _, _, _, rfl, x1, upd_same, .nil, by simp, fun x hx => absurd hx List.not_mem_nil, fun x h => by simp at h, fun x h => by simp at h⟩
  · rintro i σ H2 hi ⟨cs, cv, o3, o4, o5, o6, o7, rfl, x2, hc, dc, nm, okc, k0, k1⟩
    rw [List.length_map] at hi
    have hi : i < ws.length := by omega
    have lcs : cs.length = i := by have := congrArg List.length nm; rw [List.length_map, List.length_take] at this; omega
    have lcv : cv.length = cs.length := by rw [dc.lenD, List.length_map]
    refine vTake rfl x2.pool (by decide) (by decide) fun m H3 m0 m1 x3 => ?_
    refine ⟨small (by show 2 ≤ _; decide), fun p2 hp2 => ?_⟩
    have y3 := x3.new (o := .tup ((["value", "plain"] : List Str).map V.str)) x2.pool hp2
    refine vTake rfl y3.pool (by decide) (by decide) fun e2 H5 e20 e21 y4 => ?_
    obtain ⟨kd0, hkd, mkd⟩ := pick_str (xs := ["value", "plain"]) e20 e21
    refine ⟨p2, _, e2, _, rfl, rfl, y4.seqT y3.pool (SqT.of upd_same), hkd, ?_⟩
    have y4' := y3.trans y4
    have y04 := x2.trans y4'
    have hc5 := y4'.keep _ _ nL hc
    have dc5 := dc.ext x2.pool y4'
    -- the kind
    refine ⟨fun σ H' => ∃ kd : Str, σ = [some (.ref l), some (.ref pw), some (.ref L), some (.int (0 + (i : Int))), some (.int m), some (.str kd), o6, o7] ∧ Ext l c H5 H' ∧ kd ∈ (["value", "plain"] : List Str) ∧ (i = 0 → kd = ("value" : Str)) ∧ (i = 1 → kd = ("plain" : Str)), ?_, ?_⟩
    · refine ⟨_, rfl, _, _, rfl, rfl, _, rfl, ite2 (fun z => ?_) (fun z => ?_)⟩
      · have z : (0 + (i : Int)) < 2 := of_decide_eq_true z
        refine ⟨small (by show 2 ≤ _; decide), fun p3 hp3 => ?_⟩
        have y5 := (Ext.refl y4'.pool).new (o := .tup ((["value", "plain"] : List Str).map V.str)) y4'.pool hp3
        rcases (by omega : i = 0 ∨ i = 1) with rfl | rfl
        · exact ⟨_, rfl, p3, _, _, .str "value", rfl, rfl, SqT.of upd_same, rfl, "value", rfl, y5, List.mem_cons_self, fun _ => rfl, fun z => absurd z (by decide)⟩
        · exact ⟨_, rfl, p3, _, _, .str "plain", rfl, rfl, SqT.of upd_same, rfl, "plain", rfl, y5, List.mem_cons_of_mem _ List.mem_cons_self, fun z => absurd z (by decide), fun _ => rfl⟩
      · have z : ¬ (0 + (i : Int)) < 2 := fun y => z (decide_eq_true y)
        exact ⟨kd0, rfl, Ext.refl y4'.pool, mkd, fun y => by omega, fun y => by omega⟩
    rintro σ H6 ⟨kd, rfl, y6, mk, z0, zz1⟩
    refine ⟨Nat.zero_le _, fun Lp hLp => ?_⟩
    have y7 := y6.new (o := .lst []) y4'.pool hLp
    have nLp : Lp ≠ l := (y6.pool.ne hLp).1
    have hc7 := y7.keep _ _ nL hc5
    have dc7 := dc5.ext y4'.pool y7
    have nLLp : L ≠ Lp := (ne_of_none (y6.keep _ _ nL hc5) hLp)
    have fLp : H Lp = none := by
      cases e : H Lp with
      | none => rfl
      | some o => rw [(y04.trans y6).keep _ _ nLp e] at hLp; cases hLp
    have hLp7 : (upd H6 Lp (.lst [])) Lp = some (.lst []) := upd_same
    have P7 := y7.pool
    have y07 := y04.trans y7
    have hpw7 := y07.keep _ _ npw hpw
    generalize upd H6 Lp (HO.lst []) = H7 at *
    -- the places
    refine ⟨_, rfl, m, rfl, by omega, by omega, for_range (lo := 0) (n := m.toNat) (fun k σ H' => ∃ (ns : List Int) (o : Option V), σ = [some (.ref l), some (.ref pw), some (.ref L), some (.int (0 + (i : Int))), some (.int m), some (.str kd), some (.ref Lp), o] ∧ Ext l c H H' ∧ H' Lp = some (.lst (ns.map V.int)) ∧ H' L = some (.lst cv) ∧ DtAll K H' cv (cs.map Con.d) ∧ ns.length ≤ k ∧ plOk k ns) ?_ ?_ ?_⟩
    · exact ⟨[], _, rfl, y07, hLp7, hc7, dc7, Nat.le_refl _, List.nodup_nil, (fun _ h => absurd h List.not_mem_nil), Nat.le_refl _⟩
    · rintro k σ H8 hk ⟨ns, o, rfl, x8, hn, hc8, dc8, ln, op⟩
      refine vTake rfl x8.pool (by decide) (by decide) fun d H9 d0 d1 x9 => ⟨_, _, rfl, rfl, _, rfl, ite2 (fun _ => ?_) (fun _ => ?_)⟩
      · have hn2 := x9.keep _ _ nLp hn
        refine ⟨_, rfl, .inl ⟨rfl, _, SqL.of hn2⟩, ?_⟩
        refine ⟨_, rfl, _, rfl, Lp, _, rfl, .inl (SqL.of hn2), _, _, rfl, rfl, l, c, _, False, rfl, x9.pool, by omega, by rw [List.length_map]; omega, .inl (Nat.le_refl 2), fun e H10 e0 e1 x10 => ?_⟩
        have hn3 := x10.keep _ _ nLp hn2
        rw [List.length_map] at e1
        have x810 := x9.trans x10
        refine ⟨_, rfl, Lp, _, e, _, rfl, rfl, hn3, by rw [List.length_map]; exact smallL (by omega), e0, by omega, ?_⟩
        refine ⟨ns.take e.toNat ++ [0 + (k : Int)] ++ ns.drop e.toNat, _, rfl, (x8.trans x810).upd P0 fLp, ?_, ?_, ?_, ?_, op.put _⟩
        · rw [upd_same, List.map_append, List.map_append, List.map_take, List.map_drop]; rfl
        · rw [upd_ne nLLp]; exact x810.keep _ _ nL hc8
        · exact (dc8.ext x8.pool x810).upd hn3
        · rw [List.length_append, List.length_append, List.length_take, List.length_drop]; show min _ _ + 1 + _ ≤ _; omega
      · exact ⟨ns, _, rfl, x8.trans x9, x9.keep _ _ nLp hn, x9.keep _ _ nL hc8, dc8.ext x8.pool x9, by omega, op.more⟩
    rintro σ H8 ⟨ns, o, rfl, x8, hn, hc8, dc8, ln, op⟩
    have hpw8 := x8.keep _ _ npw hpw
    have e0 : ws[i]? = some ws[i] := List.getElem?_eq_getElem hi
    have m3 : m.toNat ≤ 3 := by omega
    refine ⟨_, rfl, .inl ⟨rfl, _, SqL.of hc8⟩, _, rfl, _, rfl, pw, _, _, .str ws[i], rfl, rfl, SqL.of hpw8, by rw [Int.zero_add]; exact atI_nat (by rw [List.getElem?_map, e0]; rfl), _, rfl, _, rfl, _, rfl, Lp, _, rfl, .inl ⟨SqL.of hn, fun pt hpt => ⟨small (by show 4 ≤ _; decide), fun p9 hp9 => ?_⟩⟩⟩
    have z1 := (Ext.refl x8.pool).new (o := .tup (ns.map V.int)) x8.pool hpt
    have z2 := z1.new (o := .tup [.str ws[i], .int m, .str kd, .ref pt]) x8.pool hp9
    have hc9 := z2.keep _ _ nL hc8
    have em : V.int m = V.int ((m.toNat : Nat) : Int) := by congr 1; omega
    have dn : Dt K (upd (upd H8 pt (.tup (ns.map V.int))) p9 (.tup [.str ws[i], .int m, .str kd, .ref pt])) (.ref p9) (Con.mk ws[i] m.toNat kd ns).d := by
      rw [em]
      exact .tup (SqT.of upd_same) (.cons (.str _) (.cons (.int _) (.cons (.str _) (.cons ((Dt.tup (SqT.of upd_same) (DtAll.ints ns)).new hp9) .nil))))
    refine ⟨L, cv, _, rfl, rfl, hc9, smallL (by omega), cs ++ [⟨ws[i], m.toNat, kd, ns⟩], cv ++ [.ref p9], _, _, _, _, _, rfl, (x8.trans z2).upd P0 hL, upd_same, ?_, ?_, ?_, ?_, ?_⟩
    · rw [List.map_append]
      exact ((dc8.ext x8.pool z2).append (.cons dn .nil)).upd hc9
    · rw [List.map_append, nm, List.take_add_one, e0]; rfl
    · intro x hx
      rcases List.mem_append.mp hx with h | h
      · exact okc x h
      · rw [List.mem_singleton.mp h]; exact ⟨mk, op, m3⟩
    · intro x hx
      by_cases h : 0 < cs.length
      · rw [List.getElem?_append_left h] at hx; exact k0 x hx
      · rw [List.getElem?_append_right (by omega), show 0 - cs.length = 0 by omega] at hx
        cases hx
        exact z0 (by omega)
    · intro x hx
      by_cases h : 1 < cs.length
      · rw [List.getElem?_append_left h] at hx; exact k1 x hx
      · rw [List.getElem?_append_right (by omega)] at hx
        have h1 := (List.getElem?_eq_some_iff.mp hx).1
        have h2 : [(⟨ws[i], m.toNat, kd, ns⟩ : Con)].length = 1 := rfl
        have : 1 - cs.length = 0 := by omega
        rw [this] at hx
        cases hx
        exact zz1 (by omega)
  rintro σ H1 ⟨cs, cv, o3, o4, o5, o6, o7, rfl, x2, hc, dc, nm, okc, k0, k1⟩
  rw [List.length_map, show ((ws.length : Nat) : Int).toNat = ws.length by omega, List.take_length] at nm
  exact ⟨_, rfl, q H1 L cv cs x2 hL hc dc nm okc k0 k1⟩
end
end PK
namespace PK
open PySem L2
/-! the box, and patterns -/
structure BxA where
  bx : Addr
  ar : Addr
  an : Addr
  af : Addr
  aw : Addr
  su : Addr
/-- all but the pool and the box's lists is kept -/
structure ExB (l c : Addr) (A : BxA) (H H' : Hp) : Prop where
  keep : ∀ b o, b ≠ l → b ≠ A.af → b ≠ A.aw → b ≠ A.su → H b = some o → H' b = some o
  pool : Pool H' l c
structure Bx (K : PySem.W.Frag) (H : Hp) (l c : Addr) (A : BxA) (cs : List Con) (ns fr wo su : List Str) : Prop where
  n1 : A.ar ≠ l ∧ A.ar ≠ A.af ∧ A.ar ≠ A.aw ∧ A.ar ≠ A.su
  n2 : A.an ≠ A.af ∧ A.an ≠ A.aw ∧ A.an ≠ A.su
  n4 : A.af ≠ c ∧ A.aw ≠ c ∧ A.su ≠ c
  n3 : A.af ≠ l ∧ A.aw ≠ l ∧ A.su ≠ l ∧ A.af ≠ A.aw ∧ A.af ≠ A.su ∧ A.aw ≠ A.su
  hb : ∃ kvs, H A.bx = some (.dK kvs) ∧ valV kvs (.inr "rows") = some (.ref A.ar) ∧ valV kvs (.inr "names") = some (.ref A.an) ∧ valV kvs (.inr "free") = some (.ref A.af) ∧ valV kvs (.inr "words") = some (.ref A.aw) ∧ valV kvs (.inr "sure") = some (.ref A.su)
  rv : ∃ rv, H A.ar = some (.lst rv) ∧ DtAll K H rv (cs.map Con.d)
  nm : Nm H l A.an ns
  hf : H A.af = some (.lst (fr.map V.str))
  hw : H A.aw = some (.lst (wo.map V.str))
  hs : H A.su = some (.lst (su.map V.str))
section
variable {K : PySem.W.Frag} {H H' H1 : Hp} {l c : Addr} {A : BxA} {cs : List Con} {ns fr wo su : List Str}
theorem ExB.refl (P : Pool H l c) : ExB l c A H H := ⟨fun _ _ _ _ _ _ h => h, P⟩
theorem ExB.of (x : Ext l c H H') : ExB l c A H H' := ⟨fun b o h _ _ _ => x.keep b o h, x.pool⟩
theorem ExB.trans (x : ExB l c A H H1) (y : ExB l c A H1 H') : ExB l c A H H' := ⟨fun b o h1 h2 h3 h4 h => y.keep b o h1 h2 h3 h4 (x.keep b o h1 h2 h3 h4 h), y.pool⟩
/-- what holds data holds it still -/
theorem ExB.seqT (x : ExB l c A H H') (P : Pool H l c) (B : Bx K H l c A cs ns fr wo su) {a : Addr} {xs : List V} (h : SqT K H a xs) : SqT K H' a xs := by
  have nl : ∀ {o : HO}, H a = some o → (∀ ys, o ≠ .lst ys) → a ≠ l ∧ a ≠ A.af ∧ a ≠ A.aw ∧ a ≠ A.su := fun e d => by
    refine ⟨fun z => ?_, fun z => ?_, fun z => ?_, fun z => ?_⟩
    · subst z
      obtain ⟨ns, i, r, s, hl, _⟩ := P
      rw [hl] at e; cases e
      exact d _ rfl
    · rw [z, B.hf] at e; cases e; exact d _ rfl
    · rw [z, B.hw] at e; cases e; exact d _ rfl
    · rw [z, B.hs] at e; cases e; exact d _ rfl
  rcases h with (h | ⟨o, h⟩) | h
  · obtain ⟨z1, z2, z3, z4⟩ := nl h (fun _ => HO.noConfusion)
    exact .inl (.inl (x.keep _ _ z1 z2 z3 z4 h))
  · obtain ⟨z1, z2, z3, z4⟩ := nl h (fun _ => HO.noConfusion)
    exact .inl (.inr ⟨o, x.keep _ _ z1 z2 z3 z4 h⟩)
  · exact .inr h
theorem ExB.dt (x : ExB l c A H H') (P : Pool H l c) (B : Bx K H l c A cs ns fr wo su) {v : V} {d : PyData} (h : Dt K H v d) : Dt K H' v d := Dt.mono (fun _ _ z => x.seqT P B z) _ _ h
theorem ExB.dts (x : ExB l c A H H') (P : Pool H l c) (B : Bx K H l c A cs ns fr wo su) {v : List V} {d : List PyData} (h : DtAll K H v d) : DtAll K H' v d := DtAll.mono (fun _ _ z => x.seqT P B z) _ _ h
theorem Bx.ext (B : Bx K H l c A cs ns fr wo su) (P : Pool H l c) (x : Ext l c H H') : Bx K H' l c A cs ns fr wo su := by
  obtain ⟨kvs, hb, e1, e2, e3, e4, e5⟩ := B.hb
  obtain ⟨rv, hr, dr⟩ := B.rv
  have nb : A.bx ≠ l := fun z => by
    obtain ⟨ns, i, r, s, hl, _⟩ := P
    rw [z, hl] at hb; cases hb
  exact ⟨B.n1, B.n2, B.n4, B.n3, ⟨kvs, x.keep _ _ nb hb, e1, e2, e3, e4, e5⟩, ⟨rv, x.keep _ _ B.n1.1 hr, dr.ext P x⟩, B.nm.ext x, x.keep _ _ B.n3.1 B.hf, x.keep _ _ B.n3.2.1 B.hw, x.keep _ _ B.n3.2.2.1 B.hs⟩
theorem Bx.same (B : Bx K H l c A cs ns fr wo su) (s : Same H H') : Bx K H' l c A cs ns fr wo su := by
  obtain ⟨kvs, hb, e1, e2, e3, e4, e5⟩ := B.hb
  obtain ⟨rv, hr, dr⟩ := B.rv
  exact ⟨B.n1, B.n2, B.n4, B.n3, ⟨kvs, s _ _ hb, e1, e2, e3, e4, e5⟩, ⟨rv, s _ _ hr, dr.same s⟩, ⟨s _ _ B.nm.at_, B.nm.ne, B.nm.ne0, B.nm.le, B.nm.wd⟩, s _ _ B.hf, s _ _ B.hw, s _ _ B.hs⟩
/-- another list is changed -/
theorem Bx.updL (B : Bx K H l c A cs ns fr wo su) {L : Addr} {xs ys : List V} (hL : H L = some (.lst xs)) (ne : L ≠ A.ar ∧ L ≠ A.an ∧ L ≠ A.af ∧ L ≠ A.aw ∧ L ≠ A.su) : Bx K (upd H L (.lst ys)) l c A cs ns fr wo su := by
  obtain ⟨kvs, hb, e⟩ := B.hb
  obtain ⟨rv, hr, dr⟩ := B.rv
  have nb : A.bx ≠ L := fun z => by rw [z, hL] at hb; cases hb
  exact ⟨B.n1, B.n2, B.n4, B.n3, ⟨kvs, by rw [upd_ne nb]; exact hb, e⟩, ⟨rv, by rw [upd_ne ne.1.symm]; exact hr, dr.upd hL⟩, ⟨by rw [upd_ne ne.2.1.symm]; exact B.nm.at_, B.nm.ne, B.nm.ne0, B.nm.le, B.nm.wd⟩, by rw [upd_ne ne.2.2.1.symm]; exact B.hf, by rw [upd_ne ne.2.2.2.1.symm]; exact B.hw, by rw [upd_ne ne.2.2.2.2.symm]; exact B.hs⟩
theorem Bx.upF (B : Bx K H l c A cs ns fr wo su) (fr' : List Str) : Bx K (upd H A.af (.lst (fr'.map V.str))) l c A cs ns fr' wo su := by
  obtain ⟨kvs, hb, e⟩ := B.hb
  obtain ⟨rv, hr, dr⟩ := B.rv
  have nb : A.bx ≠ A.af := fun z => by rw [z, B.hf] at hb; cases hb
  exact ⟨B.n1, B.n2, B.n4, B.n3, ⟨kvs, by rw [upd_ne nb]; exact hb, e⟩, ⟨rv, by rw [upd_ne B.n1.2.1]; exact hr, dr.upd B.hf⟩, ⟨by rw [upd_ne B.n2.1]; exact B.nm.at_, B.nm.ne, B.nm.ne0, B.nm.le, B.nm.wd⟩, upd_same, by rw [upd_ne B.n3.2.2.2.1.symm]; exact B.hw, by rw [upd_ne B.n3.2.2.2.2.1.symm]; exact B.hs⟩
theorem Bx.upW (B : Bx K H l c A cs ns fr wo su) (wo' : List Str) : Bx K (upd H A.aw (.lst (wo'.map V.str))) l c A cs ns fr wo' su := by
  obtain ⟨kvs, hb, e⟩ := B.hb
  obtain ⟨rv, hr, dr⟩ := B.rv
  have nb : A.bx ≠ A.aw := fun z => by rw [z, B.hw] at hb; cases hb
  exact ⟨B.n1, B.n2, B.n4, B.n3, ⟨kvs, by rw [upd_ne nb]; exact hb, e⟩, ⟨rv, by rw [upd_ne B.n1.2.2.1]; exact hr, dr.upd B.hw⟩, ⟨by rw [upd_ne B.n2.2.1]; exact B.nm.at_, B.nm.ne, B.nm.ne0, B.nm.le, B.nm.wd⟩, by rw [upd_ne B.n3.2.2.2.1]; exact B.hf, upd_same, by rw [upd_ne B.n3.2.2.2.2.2.symm]; exact B.hs⟩
theorem Bx.upS (B : Bx K H l c A cs ns fr wo su) (su' : List Str) : Bx K (upd H A.su (.lst (su'.map V.str))) l c A cs ns fr wo su' := by
  obtain ⟨kvs, hb, e⟩ := B.hb
  obtain ⟨rv, hr, dr⟩ := B.rv
  have nb : A.bx ≠ A.su := fun z => by rw [z, B.hs] at hb; cases hb
  exact ⟨B.n1, B.n2, B.n4, B.n3, ⟨kvs, by rw [upd_ne nb]; exact hb, e⟩, ⟨rv, by rw [upd_ne B.n1.2.2.2]; exact hr, dr.upd B.hs⟩, ⟨by rw [upd_ne B.n2.2.2]; exact B.nm.at_, B.nm.ne, B.nm.ne0, B.nm.le, B.nm.wd⟩, by rw [upd_ne B.n3.2.2.2.2.1]; exact B.hf, by rw [upd_ne B.n3.2.2.2.2.2]; exact B.hw, upd_same⟩
theorem ExB.up (x : ExB l c A H H') (B : Bx K H' l c A cs ns fr wo su) {p : Addr} (hp : p = A.af ∨ p = A.aw ∨ p = A.su) (ys : List V) : ExB l c A H (upd H' p (.lst ys)) := by
  have nl : p ≠ l ∧ p ≠ c := by
    rcases hp with rfl | rfl | rfl
    · exact ⟨B.n3.1, B.n4.1⟩
    · exact ⟨B.n3.2.1, B.n4.2.1⟩
    · exact ⟨B.n3.2.2.1, B.n4.2.2⟩
  refine ⟨fun b o h1 h2 h3 h4 h => ?_, x.pool.upd nl.1 nl.2⟩
  have : b ≠ p := by rcases hp with rfl | rfl | rfl <;> assumption
  rw [upd_ne this]; exact x.keep b o h1 h2 h3 h4 h
end
/-! patterns -/
def pwd (t : Tm) : List Str := match t with
  | .var s => [s]
  | .node _ ts => (ts.attach.map fun k => pwd k.1).flatten
  | .int _ => []
  | .name _ => []
  | .addr _ => []
  | .map _ => []
  | .form _ _ => []
termination_by sizeOf t
decreasing_by exact Tm.kid_lt (t := .node _ ts) k.2
theorem pwd_node (c : Str) (ts : List Tm) : pwd (.node c ts) = (ts.map pwd).flatten := by rw [pwd, List.attach_map_val (f := pwd)]
def conOf (cs : List Con) (c : Str) : Option Con := cs.find? fun x => decide (x.nm = c)
theorem conOf_mem {cs : List Con} (nd : (cs.map Con.nm).Nodup) {x : Con} (h : x ∈ cs) : conOf cs x.nm = some x := by
  unfold conOf
  induction cs with
  | nil => cases h
  | cons y cs ih =>
    rw [List.map_cons, List.nodup_cons] at nd
    rw [List.find?_cons]
    rcases List.mem_cons.mp h with rfl | h
    · rw [decide_eq_true rfl]
    · have : ¬ y.nm = x.nm := fun e => nd.1 (by rw [e]; exact List.mem_map.mpr ⟨x, h, rfl⟩)
      rw [decide_eq_false this]
      exact ih nd.2 h
def inPl (cs : List Con) (c : Str) (i : Nat) : Bool := match conOf cs c with
  | some x => decide (((i : Nat) : Int) ∈ x.pl)
  | none => false
/-- the words at sure places -/
def swd (cs : List Con) (b : Bool) (t : Tm) : List Str := match t with
  | .var s => if b = true then [s] else []
  | .node c ts => (ts.attach.zipIdx.map fun q => swd cs (b && inPl cs c q.2) q.1.1).flatten
  | .int _ => []
  | .name _ => []
  | .addr _ => []
  | .map _ => []
  | .form _ _ => []
termination_by sizeOf t
decreasing_by exact Tm.kid_lt (t := .node c ts) q.1.2
theorem swd_node (cs : List Con) (b : Bool) (c : Str) (ts : List Tm) : swd cs b (.node c ts) = (ts.zipIdx.map fun q => swd cs (b && inPl cs c q.2) q.1).flatten := by
  rw [swd]
  congr 1
  have : ∀ (l : List Tm) (n : Nat) (P : ∀ k ∈ l, k ∈ ts), ((l.attachWith (· ∈ ts) P).zipIdx n).map (fun q => swd cs (b && inPl cs c q.2) q.1.1) = (l.zipIdx n).map fun q => swd cs (b && inPl cs c q.2) q.1 := fun l => by
    induction l with
    | nil => exact fun _ _ => rfl
    | cons a l ih =>
      intro n P
      rw [List.attachWith_cons, List.zipIdx_cons, List.zipIdx_cons, List.map_cons, List.map_cons, ih]
  exact this ts 0 fun _ h => h
inductive PatOk (cs : List Con) (ns : List Str) : Bool → Tm → Prop
  | atom {b : Bool} {t : Tm} : atB ns t → PatOk cs ns b t
  | var {b : Bool} {s : Str} : PatOk cs ns b (.var s)
  | node {b : Bool} {x : Con} {ts : List Tm} : x ∈ cs → ts.length = x.ar → (b = true → x.kd = ("value" : Str)) → (∀ (i : Nat) (k : Tm), ts[i]? = some k → PatOk cs ns (b && inPl cs x.nm i) k) → PatOk cs ns b (.node x.nm ts)
/-- what the constructors of a language are -/
structure CsOk (cs : List Con) : Prop where
  nd : (cs.map Con.nm).Nodup
  le : cs.length ≤ 20
  ok : ∀ x ∈ cs, x.ok
  va : ∃ x ∈ cs, x.kd = ("value" : Str)
  pl : ∃ x ∈ cs, x.kd = ("plain" : Str)
theorem Con.get4 {K : PySem.W.Frag} {H : Hp} {v : V} {x : Con} (h : Dt K H v x.d) : ∃ a b, v = .ref a ∧ SqT K H a [.str x.nm, .int (x.ar : Nat), .str x.kd, .ref b] ∧ SqT K H b (x.pl.map .int) := by
  unfold Con.d at h
  obtain ⟨a, ys, rfl, hs, dys⟩ := Dt.tn h
  cases dys with | cons h1 t1 => cases t1 with | cons h2 t2 => cases t2 with | cons h3 t3 => cases t3 with | cons h4 t4 =>
  cases t4
  obtain ⟨b, zs, rfl, hb, dz⟩ := Dt.tn h4
  rw [h1.s, h2.i, h3.s] at hs
  rw [dz.intsE] at hb
  exact ⟨a, b, rfl, hs, hb⟩
theorem take_snoc {α : Type} {l : List α} {i : Nat} {p : α} (h : l[i]? = some p) : l.take (i + 1) = l.take i ++ [p] := by
  rw [List.take_add_one, h]; rfl
theorem inV_int (u : Int) : ∀ ns : List Int, inV (.int u) (ns.map V.int) = decide (u ∈ ns)
  | [] => rfl
  | n :: r => by
    have ih := inV_int u r
    unfold inV at ih ⊢
    rw [List.map_cons, List.any_cons, ih]
    show (n == u || decide (u ∈ r)) = _
    rw [Bool.eq_iff_iff]
    simp only [Bool.or_eq_true, beq_iff_eq, decide_eq_true_iff, List.mem_cons]
    exact ⟨fun h => h.elim (fun h => .inl h.symm) .inr, fun h => h.elim (fun h => .inl h.symm) .inr⟩
theorem flat_ints : ∀ ns : List Int, (ns.map V.int).all flatV = true
  | [] => rfl
  | n :: r => by rw [List.map_cons, List.all_cons, flat_ints r]; rfl
/-- a row that is picked -/
def PkC (K : PySem.W.Frag) (H : Hp) (x : Con) : V → Prop := fun v => Dt K H v x.d
def spKind (K : PySem.W.Frag) : Sp := fun vs H Q _ => ∃ (l c : Addr) (A : BxA) (cs : List Con) (ns fr wo su : List Str) (kd : Str), vs = [.ref A.bx, .str kd] ∧ Bx K H l c A cs ns fr wo su ∧ cs.length ≤ 20 ∧
  ∀ (H' : Hp) (p : Addr) (rv : List V), Same H H' → H p = none → H' p = some (.lst rv) → DtAll K H' rv ((cs.filter fun x => decide (x.kd = kd)).map Con.d) → Q (.ref p) H'
def spPart (K : PySem.W.Frag) (n : Nat) : Sp := fun vs H Q _ => ∃ (l c : Addr) (A : BxA) (cs : List Con) (ns fr wo su : List Str) (b : Bool) (d : Nat), vs = [.ref l, .ref A.bx, .bl b, .int (d : Nat)] ∧ Pool H l c ∧ Bx K H l c A cs ns fr wo su ∧ CsOk cs ∧ fr.length ≤ 20 ∧ wo.length + fr.length ≤ 1000 ∧ su.length ≤ wo.length ∧ d < n ∧
  ∀ (H' : Hp) (v : V) (t : Tm) (fr' : List Str), ExB l c A H H' → Bx K H' l c A cs ns fr' (wo ++ pwd t) (su ++ swd cs b t) → fr = fr' ++ (pwd t).reverse → Dt K H' v t.d → PatOk cs ns b t → t.ht ≤ d + 1 → Q v H'
theorem swd_len {cs : List Con} : ∀ {t : Tm} {b : Bool}, (swd cs b t).length ≤ (pwd t).length := fun {t} => by
  induction t using Tm.ind with
  | h t ih =>
    intro b
    cases t with
    | var s => rw [swd, pwd]; split <;> simp
    | node c ts =>
      rw [swd_node, pwd_node]
      have : ∀ (l : List Tm) (n : Nat), (∀ k ∈ l, ∀ b, (swd cs b k).length ≤ (pwd k).length) → ((l.zipIdx n).map fun q => swd cs (b && inPl cs c q.2) q.1).flatten.length ≤ ((l.map pwd).flatten).length := fun l => by
        induction l with
        | nil => exact fun _ _ => Nat.le_refl _
        | cons a l ihl =>
          intro n h
          rw [List.zipIdx_cons, List.map_cons, List.map_cons, List.flatten_cons, List.flatten_cons, List.length_append, List.length_append]
          have h1 := h a List.mem_cons_self (b && inPl cs c n)
          have h2 := ihl (n + 1) fun k hk => h k (List.mem_cons_of_mem _ hk)
          show (swd cs (b && inPl cs c n) a).length + _ ≤ _
          omega
      exact this ts 0 fun k hk b => ih k hk
    | int _ => rw [swd]; exact Nat.zero_le _
    | name _ => rw [swd]; exact Nat.zero_le _
    | addr _ => rw [swd]; exact Nat.zero_le _
    | map _ => rw [swd]; exact Nat.zero_le _
    | form _ _ => rw [swd]; exact Nat.zero_le _
theorem atB.words {cs : List Con} {ns : List Str} {t : Tm} (h : atB ns t) (b : Bool) : pwd t = [] ∧ swd cs b t = [] ∧ t.ht ≤ 1 := by
  have k0 := h.kids
  refine ⟨?_, ?_, Tm.ht_le (n := 0) fun k hk => by rw [k0] at hk; cases hk⟩
  · cases t <;> first | (rw [pwd]; done) | exact h.elim
  · cases t <;> first | (rw [swd]; done) | exact h.elim
section
variable {P : Program} {w : World} {K : PySem.W.Frag} {mg : Str → Option Value} {base : Heap}
abbrev s_law_of_kind : Stmt := topS 23
theorem sc_law_of_kind : FnScope ["box", "kind", "row"] ["box", "kind"] (defScope s_law_of_kind) := ⟨rfl, rfl, rfl, by decide +kernel, rfl, by decide +kernel, by decide +kernel⟩
-- slots: 0:box 1:kind(cell) 2:row(comp)
abbrev s_law_part : Stmt := topS 25
theorem sc_law_part : FnScope ["pool", "box", "is_sure", "depth", "kind", "rows", "row", "parts", "place", "word"] ["pool", "box", "is_sure", "depth"] (defScope s_law_part) := ⟨rfl, rfl, rfl, by decide +kernel, rfl, by decide +kernel, by decide +kernel⟩
-- slots: 0:pool 1:box 2:is_sure 3:depth 4:kind 5:rows 6:row 7:parts 8:place 9:word
abbrev s_law_pattern : Stmt := topS 26
theorem sc_law_pattern : FnScope ["pool", "box", "row", "parts", "place"] ["pool", "box"] (defScope s_law_pattern) := ⟨rfl, rfl, rfl, by decide +kernel, rfl, by decide +kernel, by decide +kernel⟩
-- slots: 0:pool 1:box 2:row 3:parts 4:place
theorem ok_kind {f : Addr} {fd : FuncData} (F : Fun K "_law_of_kind" "_law_of_kind" s_law_of_kind f fd) : FnOk P w K mg base CX0 1 f fd ["box", "kind"] (spKind K) := by
  refine F.ok sc_law_of_kind (fun vs H Q E h => ?_) (fun cdv A outer s H vs Q E hr h => ?_)
  · obtain ⟨_, _, _, _, _, _, _, _, _, rfl, _⟩ := h
    rfl
  obtain ⟨l, c, B, cs, ns, fr, wo, su, kd, rfl, bx, lc, q⟩ := h
  refine ⟨_, (pss_one (ps_ret (pe_lc (own := [("row", 2)]) (g := (gName 2)) (by rfl) sc_law_of_kind.nd (pi_list (pe_dget (hu_of hr) (pv 0) pe_str (fun _ _ => rfl))) (blkOk_by (N := ["box", "kind", "row"]) (sc := defScope s_law_of_kind) (by decide +kernel)) (fun _ _ _ _ _ => (pg_name (i := 2) sc_law_of_kind.nd rfl (Or.inl rfl))) (fun _ _ _ _ _ => pts_one (pt_cmpR op_eq (pe_ix (r := rIxT K) ix_tup (pv 2) pe_int (fun _ _ => rfl)) (pv 1) (nomark _))) (fun _ _ _ _ _ => (pv 2))))), ?_⟩
  obtain ⟨kvs, hb, e1, _⟩ := bx.hb
  obtain ⟨rv, hr, dr⟩ := bx.rv
  have lrv : rv.length = cs.length := by rw [dr.lenD, List.length_map]
  refine ⟨_, rfl, _, _, rfl, (by have z := DGet.k (k := Sum.inr ("rows" : Str)) hb; rw [e1] at z; exact z), B.ar, rfl, ⟨_, SqL.of hr⟩, fun D hD => lc_it (walk_list (K := K) (xs := rv)) (fun i H' => Same H H' ∧ ∃ rv', H' D = some (.lst rv') ∧ DtAll K H' rv' (((cs.take i).filter fun x => decide (x.kd = kd)).map Con.d)) ⟨same_new hD, [], upd_same, by rw [List.take_zero]; exact .nil⟩ (fun i H' _ h => SqL.of (h.1 _ _ hr)) ?_ ?_⟩
  · rintro i x H1 H1 hi ⟨s1, rv', h1, d1⟩ ⟨rfl, gx⟩
    obtain ⟨dd, gd, dx⟩ := dr.getX gx
    rw [List.getElem?_map] at gd
    cases e0 : cs[i]? with
    | none => rw [e0] at gd; cases gd
    | some y =>
    rw [e0] at gd
    cases gd
    obtain ⟨a, b, rfl, hs, hb2⟩ := Con.get4 (dx.same s1)
    have lrv' : rv'.length ≤ i := by
      rw [d1.lenD, List.length_map]
      exact Nat.le_trans (List.length_filter_le _ _) (by rw [List.length_take]; omega)
    refine ⟨rfl, vTx rfl hs rfl ⟨_, rfl, rfl, _, rfl, ?_⟩⟩
    rw [take_snoc e0, List.filter_append]
    by_cases ek : y.kd = kd
    · rw [List.filter_cons_of_pos (by exact decide_eq_true ek), List.filter_nil, List.map_append]
      exact sT ek ⟨_, rfl, rv', h1, smallL (by omega), Same.upd s1 hD, _, upd_same, (d1.append (.cons (dx.same s1) .nil)).upd h1⟩
    · rw [List.filter_cons_of_neg (by exact fun z => ek (of_decide_eq_true z)), List.filter_nil, List.append_nil]
      exact sF ek ⟨s1, rv', h1, d1⟩
  rintro H1 ⟨s1, rv', h1, d1⟩
  rw [lrv, List.take_length] at d1
  exact q H1 D rv' s1 hD h1 d1
theorem zipIdx_snoc {α β : Type} (f : α → Nat → List β) (l : List α) (a : α) : (((l ++ [a]).zipIdx).map fun q => f q.1 q.2).flatten = ((l.zipIdx).map fun q => f q.1 q.2).flatten ++ f a l.length := by
  rw [List.zipIdx_append, List.map_append, List.flatten_append]
  simp
/-- the parts drawn so far -/
structure PtsD (K : PySem.W.Frag) (l c : Addr) (A : BxA) (cs : List Con) (ns fr wo su : List Str) (b : Bool) (x : Con) (d : Nat) (H H' : Hp) (L : Addr) (vs : List V) (ts : List Tm) (fr' : List Str) : Prop where
  ex : ExB l c A H H'
  bx : Bx K H' l c A cs ns fr' (wo ++ (ts.map pwd).flatten) (su ++ (ts.zipIdx.map fun q => swd cs (b && inPl cs x.nm q.2) q.1).flatten)
  at_ : H' L = some (.lst vs)
  dt : DtAll K H' vs (ts.map Tm.d)
  fr : fr = fr' ++ ((ts.map pwd).flatten).reverse
  ok : ∀ (i : Nat) (k : Tm), ts[i]? = some k → PatOk cs ns (b && inPl cs x.nm i) k
  ht : ∀ k ∈ ts, k.ht ≤ d
theorem PtsD.step {K : PySem.W.Frag} {l c : Addr} {A : BxA} {cs : List Con} {ns fr wo su : List Str} {b : Bool} {x : Con} {d : Nat} {H H' H2 : Hp} {L : Addr} {vs : List V} {ts : List Tm} {fr' fr2 : List Str} {v : V} {t : Tm} (h : PtsD K l c A cs ns fr wo su b x d H H' L vs ts fr') (nL : L ≠ l ∧ L ≠ c ∧ L ≠ A.ar ∧ L ≠ A.an ∧ L ≠ A.af ∧ L ≠ A.aw ∧ L ≠ A.su) (P : Pool H l c) (hL : H L = none)
    (e : ExB l c A H' H2) (b2 : Bx K H2 l c A cs ns fr2 ((wo ++ (ts.map pwd).flatten) ++ pwd t) ((su ++ (ts.zipIdx.map fun q => swd cs (b && inPl cs x.nm q.2) q.1).flatten) ++ swd cs (b && inPl cs x.nm ts.length) t)) (ef : fr' = fr2 ++ (pwd t).reverse) (dv : Dt K H2 v t.d) (ok : PatOk cs ns (b && inPl cs x.nm ts.length) t) (ht : t.ht ≤ d) :
    PtsD K l c A cs ns fr wo su b x d H (upd H2 L (.lst (vs ++ [v]))) L (vs ++ [v]) (ts ++ [t]) fr2 := by
  have h2 : H2 L = some (.lst vs) := e.keep _ _ nL.1 nL.2.2.2.2.1 nL.2.2.2.2.2.1 nL.2.2.2.2.2.2 h.at_
  refine ⟨⟨fun p o q1 q2 q3 q4 q => ?_, e.pool.upd nL.1 nL.2.1⟩, ?_, upd_same, ?_, ?_, fun i k hk => ?_, fun k hk => ?_⟩
  · have : p ≠ L := fun z => by rw [z, hL] at q; cases q
    rw [upd_ne this]; exact (h.ex.trans e).keep p o q1 q2 q3 q4 q
  · have := b2.updL (ys := vs ++ [v]) h2 nL.2.2
    rw [List.map_append, List.flatten_append, List.zipIdx_append, List.map_append, List.flatten_append]
    simpa [List.append_assoc] using this
  · rw [List.map_append]
    exact ((e.dts h.ex.pool h.bx h.dt).append (.cons dv .nil)).upd h2
  · rw [List.map_append, List.flatten_append, List.reverse_append, h.fr, ef]; simp
  · by_cases hi : i < ts.length
    · rw [List.getElem?_append_left hi] at hk; exact h.ok i k hk
    · rw [List.getElem?_append_right (by omega)] at hk
      have : i - ts.length = 0 := by
        rcases Nat.eq_zero_or_pos (i - ts.length) with z | z
        · exact z
        · rw [List.getElem?_eq_none (by show 1 ≤ _; omega)] at hk; cases hk
      have : i = ts.length := by omega
      subst this
      rw [Nat.sub_self] at hk
      cases hk
      exact ok
  · rcases List.mem_append.mp hk with z | z
    · exact h.ht k z
    · rw [List.mem_singleton.mp z]; exact ht
theorem Bx.g {K : PySem.W.Frag} {H : Hp} {l c : Addr} {A : BxA} {cs : List Con} {ns fr wo su : List Str} (B : Bx K H l c A cs ns fr wo su) :
    DGet H A.bx (.str "rows") (some (.ref A.ar)) ∧ DGet H A.bx (.str "names") (some (.ref A.an)) ∧ DGet H A.bx (.str "free") (some (.ref A.af)) ∧ DGet H A.bx (.str "words") (some (.ref A.aw)) ∧ DGet H A.bx (.str "sure") (some (.ref A.su)) := by
  obtain ⟨kvs, hb, e1, e2, e3, e4, e5⟩ := B.hb
  have g : ∀ (k : Str) (v : V), valV kvs (.inr k) = some v → DGet H A.bx (.str k) (some v) := fun k v e => by
    have z := DGet.k (k := Sum.inr k) hb
    rw [e] at z
    exact z
  exact ⟨g _ _ e1, g _ _ e2, g _ _ e3, g _ _ e4, g _ _ e5⟩
theorem ok_part {n : Nat} {f : Addr} {fd : FuncData} (F : Fun K "_law_part" "_law_part" s_law_part f fd) (T : Txt K mg) (C_law_take : C8.Cal P w K mg base 2 "_law_take" (spTake 2) []) (C_law_of_kind : C8.Cal P w K mg base 1 "_law_of_kind" (spKind K) []) (C_law_pick : C8.Cal P w K mg base 3 "_law_pick" (spPick K) []) (C_law_atom : C8.Cal P w K mg base 4 "_law_atom" (spAtom K) [])
    (C_law_part : C8.Cal P w K mg base (n + 4) "_law_part" (spPart K n) []) : FnOk P w K mg base CX0 (n + 5) f fd ["pool", "box", "is_sure", "depth"] (spPart K (n + 1)) := by
  refine F.ok sc_law_part (fun vs H Q E h => ?_) (fun cdv A outer s H vs Q E hr h => ?_)
  · obtain ⟨_, _, _, _, _, _, _, _, _, _, rfl, _⟩ := h
    rfl
  obtain ⟨l, c, A, cs, ns, fr, wo, su, b, d, rfl, P0, bx, ck, lf, lw, ls, hd, q⟩ := h
  refine ⟨_, (pss_cons (ps_set (i := 4) sc_law_part.nd rfl (Or.inl rfl) (C8.pe_c C_law_take hr (by omega) rfl (pa_cons (pv 0) (pa_cons pe_int pa_nil))))
    (C8.pss_cut (ps_if (PW.pt (pw_and (pt_cmpR op_lt (pv 4) pe_int (nomark _)) (pw_and1 (pt_cmpR op_gt (pv 3) pe_int (nomark _))))) (pss_cons (ps_set (i := 5) sc_law_part.nd rfl (Or.inl rfl) (pe_dget (hu_of hr) (pv 1) pe_str (fun _ _ => rfl)))
    (C8.pss_cut (ps_if (pt_val (pv 2)) (pss_one (ps_set (i := 5) sc_law_part.nd rfl (Or.inl rfl) (C8.pe_c C_law_of_kind hr (by omega) rfl (pa_cons (pv 1) (pa_cons pe_str pa_nil))))) pss_nil)
    (pss_cons (ps_set (i := 6) sc_law_part.nd rfl (Or.inl rfl) (C8.pe_c C_law_pick hr (by omega) rfl (pa_cons (pv 0) (pa_cons (pv 5) pa_nil))))
    (pss_cons (ps_set (i := 7) sc_law_part.nd rfl (Or.inl rfl) (pe_lst pa_nil))
    (pss_cons (ps_for PassesOwn.never rfl (pi_range1 (by rfl) T.z_range (pa_cons (pe_ix ix_tup (pv 6) pe_int (fun _ _ => rfl)) pa_nil)) (pg_name (i := 8) sc_law_part.nd rfl (Or.inl rfl)) (pss_one (ps_expr (pe_bm PySem.F.plainAttrs_list PySem.F.slot_list_append PySem.F.type_list_append mt_append (pv 7) (pa_cons (C8.pe_c C_law_part hr (by omega) rfl (pa_cons (pv 0) (pa_cons (pv 1) (pa_cons (pe_and (pv 2) (pe_one (pe_cmpR op_in_seq (pv 8) (pe_ix ix_tup (pv 6) pe_int (fun _ _ => rfl)) rfl))) (pa_cons (pe_op op_sub (pv 3) pe_int) pa_nil))))) pa_nil)))))
    (pss_one (ps_ret (pe_tup (pa_cons pe_str (pa_cons (pe_ix ix_tup (pv 6) pe_int (fun _ _ => rfl)) (pa_cons (pe_callTy call_tuple_of (by rfl) T.z_tuple (by decide +kernel) (pa_cons (pv 7) pa_nil)) pa_nil))))))))))) pss_nil)
    (C8.pss_cut (ps_if (PW.pt (pw_or (pt_cmpR op_eq (pv 4) pe_int (nomark _)) (pw_or1 (pt_not (pt_truth (pe_dget (hu_of hr) (pv 1) pe_str (fun _ _ => rfl)) (by intro _; rfl)))))) (pss_one (ps_ret (C8.pe_c C_law_atom hr (by omega) rfl (pa_cons (pv 0) (pa_cons (pe_dget (hu_of hr) (pv 1) pe_str (fun _ _ => rfl)) pa_nil))))) pss_nil)
    (pss_cons (ps_set (i := 9) sc_law_part.nd rfl (Or.inl rfl) (pe_bm0 PySem.F.plainAttrs_list PySem.F.slot_list_pop PySem.F.type_list_pop mt_pop (pe_dget (hu_of hr) (pv 1) pe_str (fun _ _ => rfl))))
    (pss_cons (ps_expr (pe_bm PySem.F.plainAttrs_list PySem.F.slot_list_append PySem.F.type_list_append mt_append (pe_dget (hu_of hr) (pv 1) pe_str (fun _ _ => rfl)) (pa_cons (pv 9) pa_nil)))
    (C8.pss_cut (ps_if (pt_val (pv 2)) (pss_one (ps_expr (pe_bm PySem.F.plainAttrs_list PySem.F.slot_list_append PySem.F.type_list_append mt_append (pe_dget (hu_of hr) (pv 1) pe_str (fun _ _ => rfl)) (pa_cons (pv 9) pa_nil)))) pss_nil)
    (pss_one (ps_ret (pe_tup (pa_cons pe_str (pa_cons (pv 9) pa_nil))))))))))), ?_⟩
  have two : ∀ x y : V, [x, y].length ≤ sizeLine := fun x y => small (by show 2 ≤ _; decide)
  have three : ∀ x y z : V, [x, y, z].length ≤ sizeLine := fun x y z => small (by show 3 ≤ _; decide)
  refine vTake rfl P0 (by decide) (by decide) fun k H1 k0 k1 x1 => ?_
  have b1 := bx.ext P0 x1
  have P1 := x1.pool
  obtain ⟨g1, g2, g3, g4, g5⟩ := b1.g
  refine ⟨fun σ H' => σ = [some (.ref l), some (.ref A.bx), some (.bl b), some (.int (d : Nat)), some (.int k), none, none, none, none, none] ∧ H1 = H', ?_, ?_⟩
  · refine ⟨_, rfl, _, _, rfl, rfl, _, rfl, ite2 (fun z1 => ?_) (fun z1 => ?_)⟩
    · refine ⟨_, rfl, _, _, rfl, rfl, _, rfl, ite2 (fun z2 => ?_) (fun z2 => ?_)⟩
      · obtain ⟨e, rfl⟩ : ∃ e, d = e + 1 := ⟨d - 1, by have := of_decide_eq_true z2; omega⟩
        obtain ⟨rv, hr2, dr⟩ := b1.rv
        refine ⟨_, rfl, _, _, rfl, g1, fun σ H' => ∃ (p : Addr) (rv : List V) (xs : List Con), σ = [some (.ref l), some (.ref A.bx), some (.bl b), some (.int (e + 1 : Nat)), some (.int k), some (.ref p), none, none, none, none] ∧ Ext l c H1 H' ∧ H' p = some (.lst rv) ∧ p ≠ l ∧ DtAll K H' rv (xs.map Con.d) ∧ (∀ x ∈ xs, x ∈ cs ∧ (b = true → x.kd = ("value" : Str))) ∧ xs ≠ [] ∧ xs.length ≤ 20, ?_, ?_⟩
        · cases b with
          | false => exact ⟨_, rfl, _, rfl, iteF ⟨A.ar, rv, cs, rfl, Ext.refl P1, hr2, b1.n1.1, dr, fun x hx => ⟨hx, fun z => nomatch z⟩, (fun z => by obtain ⟨x, hx, _⟩ := ck.va; rw [z] at hx; cases hx), ck.le⟩⟩
          | true =>
            refine ⟨_, rfl, _, rfl, iteT ⟨_, rfl, l, c, A, cs, ns, fr, wo, su, "value", rfl, b1, ck.le, fun H2 p rv2 s2 hp0 hp dv => ?_⟩⟩
            refine ⟨p, rv2, _, rfl, (Ext.refl P1).same s2, hp, (P1.ne hp0).1, dv, fun x hx => ?_, fun z => ?_, Nat.le_trans (List.length_filter_le _ _) ck.le⟩
            · rw [List.mem_filter] at hx; exact ⟨hx.1, fun _ => of_decide_eq_true hx.2⟩
            · obtain ⟨x, hx, kx⟩ := ck.va
              have : x ∈ cs.filter fun x => decide (x.kd = ("value" : Str)) := List.mem_filter.mpr ⟨hx, decide_eq_true kx⟩
              rw [z] at this; cases this
        rintro σ H2 ⟨p, rv2, xs, rfl, x2, hp, np, dxs, oxs, nx, lxs⟩
        have lrv : rv2.length = xs.length := by rw [dxs.lenD, List.length_map]
        refine ⟨_, rfl, _, rfl, l, c, p, rv2, rfl, x2.pool, np, hp, (fun z => by rw [z] at lrv; exact nx (List.length_eq_zero_iff.mp lrv.symm)), by omega, fun H3 j x x3 gx => ?_⟩
        obtain ⟨dd, gd, dx⟩ := (dxs.ext x2.pool x3).getX gx
        rw [List.getElem?_map] at gd
        cases e0 : xs[j]? with
        | none => rw [e0] at gd; cases gd
        | some y =>
        rw [e0] at gd
        cases gd
        obtain ⟨a, bb, rfl, hs, hb2⟩ := Con.get4 dx
        obtain ⟨hyc, hyk⟩ := oxs y (List.mem_of_getElem? e0)
        have yok := ck.ok y hyc
        have xx := x1.trans (x2.trans x3)
        refine ⟨Nat.zero_le _, fun L hL => ?_⟩
        have hLH : H L = none := xx.free P0 hL
        have x4 := xx.new (o := .lst []) P0 hL
        have nL : L ≠ l ∧ L ≠ c ∧ L ≠ A.ar ∧ L ≠ A.an ∧ L ≠ A.af ∧ L ≠ A.aw ∧ L ≠ A.su := by
          obtain ⟨rv, hr2, _⟩ := bx.rv
          exact ⟨(P0.ne hLH).1, (P0.ne hLH).2, (ne_of_none hr2 hLH).symm, (ne_of_none bx.nm.at_ hLH).symm, (ne_of_none bx.hf hLH).symm, (ne_of_none bx.hw hLH).symm, (ne_of_none bx.hs hLH).symm⟩
        have hs4 : SqT K (upd H3 L (.lst [])) a _ := Same.seqT (same_new hL) hs
        refine vTx rfl hs4 rfl ⟨_, rfl, by omega, by have := yok.ar; omega, for_range (lo := 0) (n := y.ar) (fun i σ H' => ∃ (vs : List V) (ts : List Tm) (fr' : List Str) (o : Option V), σ = [some (.ref l), some (.ref A.bx), some (.bl b), some (.int (e + 1 : Nat)), some (.int k), some (.ref p), some (.ref a), some (.ref L), o, none] ∧ ts.length = i ∧ PtsD K l c A cs ns fr wo su b y (e + 1) H H' L vs ts fr' ∧ (∀ g xs, SqT K (upd H3 L (.lst [])) g xs → SqT K H' g xs)) ?_ ?_ ?_⟩
        · refine ⟨[], [], fr, none, rfl, rfl, ⟨ExB.of x4, ?_, upd_same, .nil, by simp, fun i k hk => by simp at hk, fun k hk => by cases hk⟩, fun _ _ z => z⟩
          have := bx.ext P0 x4
          simpa using this
        · rintro i σ H' hi ⟨vs, ts, fr', o, rfl, lts, D, sq⟩
          have lfr : fr.length = fr'.length + ((ts.map pwd).flatten).length := by have := congrArg List.length D.fr; simpa using this
          have lsw := swd_len (cs := cs) (t := .node y.nm ts) (b := b)
          rw [swd_node, pwd_node] at lsw
          have eip : inPl cs y.nm ts.length = decide ((0 + (i : Int)) ∈ y.pl) := by
            unfold inPl
            rw [conOf_mem ck.nd hyc, lts, Int.zero_add]
          have lvs : vs.length = ts.length := by rw [D.dt.lenD, List.length_map]
          have hs' := sq _ _ hs4
          have hb' : SqT K H' bb (y.pl.map .int) := sq _ _ (Same.seqT (same_new hL) hb2)
          have call : ∀ (b' : Bool) (Q' : VK) (E' : XK), b' = (b && inPl cs y.nm ts.length) → (∀ (H2 : Hp) (v : V) (t : Tm) (fr2 : List Str), ExB l c A H' H2 → Bx K H2 l c A cs ns fr2 ((wo ++ (ts.map pwd).flatten) ++ pwd t) ((su ++ (ts.zipIdx.map fun q => swd cs (b && inPl cs y.nm q.2) q.1).flatten) ++ swd cs (b && inPl cs y.nm ts.length) t) → fr' = fr2 ++ (pwd t).reverse → Dt K H2 v t.d → PatOk cs ns (b && inPl cs y.nm ts.length) t → t.ht ≤ e + 1 → Q' v H2) →
              spPart K n [.ref l, .ref A.bx, .bl b', .int (((e + 1 : Nat) : Int) - 1)] H' Q' E' := fun b' Q' E' h1 h2 => by
            subst h1
            exact ⟨l, c, A, cs, ns, fr', _, _, _, e, by simp, D.ex.pool, D.bx, ck, by omega, by rw [List.length_append]; omega, by rw [List.length_append, List.length_append]; omega, by omega, h2⟩
          have nx : ∀ (v : V) (H2 : Hp) (t : Tm) (fr2 : List Str), ExB l c A H' H2 → Bx K H2 l c A cs ns fr2 ((wo ++ (ts.map pwd).flatten) ++ pwd t) ((su ++ (ts.zipIdx.map fun q => swd cs (b && inPl cs y.nm q.2) q.1).flatten) ++ swd cs (b && inPl cs y.nm ts.length) t) → fr' = fr2 ++ (pwd t).reverse → Dt K H2 v t.d → PatOk cs ns (b && inPl cs y.nm ts.length) t → t.ht ≤ e + 1 →
              H2 L = some (.lst vs) ∧ vs.length < sizeLine ∧ (ts ++ [t]).length = i + 1 ∧ PtsD K l c A cs ns fr wo su b y (e + 1) H (upd H2 L (.lst (vs ++ [v]))) L (vs ++ [v]) (ts ++ [t]) fr2 ∧ ∀ g xs, SqT K (upd H3 L (.lst [])) g xs → SqT K (upd H2 L (.lst (vs ++ [v]))) g xs := fun v H2 t fr2 h1 h2 h3 h4 h5 h6 => by
            have hL2 := h1.keep _ _ nL.1 nL.2.2.2.2.1 nL.2.2.2.2.2.1 nL.2.2.2.2.2.2 D.at_
            exact ⟨hL2, smallL (by have := yok.ar; omega), by rw [List.length_append, lts]; rfl, D.step nL P0 hLH h1 h2 h3 h4 h5 h6, fun g xs z => seqT_upd (h1.seqT D.ex.pool D.bx (sq _ _ z)) hL2⟩
          cases b with
          | false =>
            refine ⟨_, rfl, .inl ⟨rfl, _, SqL.of D.at_⟩, _, rfl, _, rfl, _, rfl, false, rfl, iteF ⟨_, rfl, _, _, rfl, rfl, call false _ E (by simp) fun H2 v t fr2 h1 h2 h3 h4 h5 h6 => ?_⟩⟩
            obtain ⟨k1, k2, k3, k4, k5⟩ := nx v H2 t fr2 h1 h2 h3 h4 h5 h6
            exact ⟨L, _, _, rfl, rfl, k1, k2, _, _, _, _, rfl, k3, k4, k5⟩
          | true =>
            refine ⟨_, rfl, .inl ⟨rfl, _, SqL.of D.at_⟩, _, rfl, _, rfl, _, rfl, true, rfl, iteT ⟨_, rfl, vTx rfl hs' rfl ⟨bb, _, rfl, .inr hb', rfl, flat_ints _, ?_⟩⟩⟩
            rw [inV_int]
            refine ⟨_, rfl, _, _, rfl, rfl, call _ _ E (by rw [eip, Bool.true_and]; rfl) fun H2 v t fr2 h1 h2 h3 h4 h5 h6 => ?_⟩
            obtain ⟨k1, k2, k3, k4, k5⟩ := nx v H2 t fr2 h1 h2 h3 h4 h5 h6
            exact ⟨L, _, _, rfl, rfl, k1, k2, _, _, _, _, rfl, k3, k4, k5⟩
        · rintro σ H' ⟨vs, ts, fr', o, rfl, lts, D, sq⟩
          refine vTx rfl (sq _ _ hs4) rfl ⟨_, rfl, L, vs, rfl, .inl ⟨SqL.of D.at_, fun u hu => ⟨three _ _ _, fun t ht => ?_⟩⟩⟩
          have lvs : vs.length = ts.length := by rw [D.dt.lenD, List.length_map]
          have y5 := (Ext.refl D.ex.pool).new (o := .tup vs) D.ex.pool hu
          have y6 := y5.new (o := .tup [.str "node", .str y.nm, .ref u]) D.ex.pool ht
          refine q _ _ (.node y.nm ts) fr' (D.ex.trans (ExB.of y6)) ?_ ?_ ?_ (.node hyc lts hyk D.ok) (Tm.ht_le D.ht)
          · rw [pwd_node, swd_node]; exact D.bx.ext D.ex.pool y6
          · rw [pwd_node]; exact D.fr
          · unfold Tm.d
            rw [Tm.ds_map]
            exact Dt.mk3 ht (.str _) (.str _) (.tup (SqT.of upd_same) (D.dt.ext D.ex.pool y5))
      · exact ⟨rfl, rfl⟩
    · exact ⟨rfl, rfl⟩
  rintro σ H' ⟨rfl, rfl⟩
  refine ⟨fun σ H' => σ = [some (.ref l), some (.ref A.bx), some (.bl b), some (.int (d : Nat)), some (.int k), none, none, none, none, none] ∧ H1 = H' ∧ fr ≠ [], ?_, ?_⟩
  · have leaf : ∀ D : Ends, D.rt = Q → tRet (tCall (spAtom K) [] C8.E0 (tCons (tVar 0) (tCons (tDGet (tVar 1) (tC (.str "names"))) tNil))) D [some (.ref l), some (.ref A.bx), some (.bl b), some (.int (d : Nat)), some (.int k), none, none, none, none, none] H1 := fun D e => by
      refine ⟨_, rfl, _, rfl, A.bx, _, rfl, g2, l, c, A.an, ns, rfl, P1, b1.nm, fun v t H2 x2 dv at_ => ?_⟩
      obtain ⟨e1, e2, e3⟩ := at_.words (cs := cs) b
      rw [e]
      refine q H2 v t fr (ExB.of (x1.trans x2)) ?_ (by rw [e1]; simp) dv (.atom at_) (by omega)
      rw [e1, e2, List.append_nil, List.append_nil]
      exact b1.ext P1 x2
    refine ⟨_, rfl, rfl, _, rfl, ite2 (fun z1 => leaf _ rfl) (fun z1 => ?_)⟩
    refine ⟨_, rfl, A.bx, _, rfl, g3, !fr.isEmpty, .inl ⟨_, SqL.of b1.hf, by rw [List.isEmpty_map]⟩, ?_⟩
    cases hfr : fr with
    | nil => exact leaf _ rfl
    | cons a r => exact ⟨rfl, rfl, fun z => nomatch z⟩
  rintro σ H' ⟨rfl, rfl, nf⟩
  obtain ⟨fr2, w0, rfl⟩ : ∃ fr2 w0, fr = fr2 ++ [w0] := ⟨fr.dropLast, fr.getLast nf, (List.dropLast_concat_getLast nf).symm⟩
  have lg : ((fr2 ++ [w0]).map V.str)[((fr2 ++ [w0]).map V.str).length - 1]? = some (.str w0) := by simp
  refine ⟨_, rfl, A.bx, _, rfl, g3, .inl ⟨rfl, _, SqL.of b1.hf⟩, A.af, _, _, rfl, rfl, b1.hf, lg, ?_⟩
  have b2 := b1.upF fr2
  have x2 : ExB l c A H (upd H1 A.af (.lst (fr2.map V.str))) := (ExB.of x1).up b1 (.inl rfl) _
  rw [show ((fr2 ++ [w0]).map V.str).dropLast = fr2.map V.str by simp]
  obtain ⟨_, _, _, g4', g5'⟩ := b2.g
  refine ⟨_, rfl, A.bx, _, rfl, g4', .inl ⟨rfl, _, SqL.of b2.hw⟩, ?_⟩
  have b3 := b2.upW (wo ++ [w0])
  have x3 := x2.up b2 (p := A.aw) (.inr (.inl rfl)) ((wo ++ [w0]).map V.str)
  have lw3 : (wo.map V.str).length < sizeLine := smallL (by rw [List.length_map]; omega)
  refine ⟨_, rfl, A.aw, _, _, rfl, rfl, b2.hw, lw3, ?_⟩
  rw [show wo.map V.str ++ [V.str w0] = (wo ++ [w0]).map V.str by simp]
  obtain ⟨_, _, _, _, g5''⟩ := b3.g
  refine ⟨fun σ H' => σ = [some (.ref l), some (.ref A.bx), some (.bl b), some (.int (d : Nat)), some (.int k), none, none, none, none, some (.str w0)] ∧ ExB l c A H H' ∧ Bx K H' l c A cs ns fr2 (wo ++ [w0]) (su ++ if b = true then [w0] else []), ?_, ?_⟩
  · cases b with
    | false => exact ⟨_, rfl, _, rfl, iteF ⟨rfl, x3, by rw [if_neg (by decide), List.append_nil]; exact b3⟩⟩
    | true =>
      have ls3 : (su.map V.str).length < sizeLine := smallL (by rw [List.length_map]; omega)
      refine ⟨_, rfl, _, rfl, iteT ⟨_, rfl, A.bx, _, rfl, g5'', .inl ⟨rfl, _, SqL.of b3.hs⟩, _, rfl, A.su, _, _, rfl, rfl, b3.hs, ls3, rfl, ?_, ?_⟩⟩
      · rw [show su.map V.str ++ [V.str w0] = (su ++ [w0]).map V.str by simp]; exact x3.up b3 (.inr (.inr rfl)) _
      · rw [show su.map V.str ++ [V.str w0] = (su ++ [w0]).map V.str by simp]; exact b3.upS _
  rintro σ H4 ⟨rfl, x4, b4⟩
  refine ⟨_, rfl, two _ _, fun t ht => ?_⟩
  refine q _ _ (.var w0) fr2 (x4.trans (ExB.of ((Ext.refl x4.pool).new x4.pool ht))) ?_ (by rw [pwd]; rfl) ?_ .var (Nat.le_trans (Tm.ht_le (t := .var w0) (n := 0) fun k hk => by cases hk) (by omega))
  · rw [pwd, swd]; exact b4.ext x4.pool ((Ext.refl x4.pool).new x4.pool ht)
  · unfold Tm.d; exact Dt.mk2 ht (.str _) (.str _)
end
end PK
namespace PK
open PySem L2
/-! patterns, operands and conditions -/
/-- a pattern as it is drawn -/
structure PatT (cs : List Con) (ns : List Str) (t : Tm) : Prop where
  nd : ∃ (y : Con) (ts : List Tm), t = .node y.nm ts ∧ y ∈ cs ∧ y.kd = ("plain" : Str) ∧ ts.length = y.ar ∧ (∀ (i : Nat) (k : Tm), ts[i]? = some k → PatOk cs ns (inPl cs y.nm i) k)
  ht : t.ht ≤ 4
def spPat (K : PySem.W.Frag) : Sp := fun vs H Q _ => ∃ (l c : Addr) (A : BxA) (cs : List Con) (ns fr : List Str), vs = [.ref l, .ref A.bx] ∧ Pool H l c ∧ Bx K H l c A cs ns fr [] [] ∧ CsOk cs ∧ fr.length ≤ 20 ∧
  ∀ (H' : Hp) (v : V) (t : Tm) (fr' : List Str), ExB l c A H H' → Bx K H' l c A cs ns fr' (pwd t) (swd cs true t) → fr = fr' ++ (pwd t).reverse → Dt K H' v t.d → PatT cs ns t → Q v H'
inductive Op where
  | tm (t : Tm)
  | sum (w : Str) (n : Int)
def Op.d : Op → PyData
  | .tm t => t.d
  | .sum w n => .tuple [.str "sum", .str w, .int n]
def Op.Ok (ns su : List Str) : Op → Prop
  | .tm t => atB ns t ∨ ∃ w ∈ su, t = .var w
  | .sum w n => w ∈ su ∧ n ≠ 0 ∧ -10 < n ∧ n < 10
inductive Cd where
  | one (h x : Str)
  | two (h : Str) (a b : Op)
  | has (x : Str) (k : Tm)
  | neg (c : Cd)
def Cd.d : Cd → PyData
  | .one h x => .tuple [.str h, .str x]
  | .two h a b => .tuple [.str h, a.d, b.d]
  | .has x k => .tuple [.str "has", .str x, k.d]
  | .neg c => .tuple [.str "not", c.d]
def Cd.pos (ns su : List Str) : Cd → Prop
  | .one h x => h ∈ (["integer", "name", "address", "map"] : List Str) ∧ x ∈ su
  | .two h a b => h ∈ (["equal", "less"] : List Str) ∧ a.Ok ns su ∧ b.Ok ns su
  | .has x k => x ∈ su ∧ ((∃ s ∈ ns, k = .name s) ∨ ∃ w ∈ su, k = .var w)
  | .neg _ => False
def Cd.Ok (ns su : List Str) : Cd → Prop
  | .neg c => c.pos ns su
  | c => c.pos ns su
theorem Cd.pos_ok {ns su : List Str} {c : Cd} (h : c.pos ns su) : c.Ok ns su := by cases c <;> first | exact h | exact h.elim
/-- the box as it is read -/
def spOperand (K : PySem.W.Frag) : Sp := fun vs H Q _ => ∃ (l c : Addr) (A : BxA) (cs : List Con) (ns fr wo su : List Str), vs = [.ref l, .ref A.bx] ∧ Pool H l c ∧ Bx K H l c A cs ns fr wo su ∧ su ≠ [] ∧ su.length ≤ 1000 ∧
  ∀ (v : V) (o : Op) (H' : Hp), Ext l c H H' → Dt K H' v o.d → o.Ok ns su → Q v H'
def spCond (K : PySem.W.Frag) : Sp := fun vs H Q _ => ∃ (l c : Addr) (A : BxA) (cs : List Con) (ns fr wo su : List Str), vs = [.ref l, .ref A.bx] ∧ Pool H l c ∧ Bx K H l c A cs ns fr wo su ∧ su ≠ [] ∧ su.length ≤ 1000 ∧
  ∀ (v : V) (d : Cd) (H' : Hp), Ext l c H H' → Dt K H' v d.d → d.pos ns su → Q v H'
def spConds (K : PySem.W.Frag) : Sp := fun vs H Q _ => ∃ (l c : Addr) (A : BxA) (cs : List Con) (ns fr wo su : List Str), vs = [.ref l, .ref A.bx] ∧ Pool H l c ∧ Bx K H l c A cs ns fr wo su ∧ su.length ≤ 1000 ∧
  ∀ (v : V) (ds : List Cd) (H' : Hp), Ext l c H H' → Dt K H' v (.tuple (ds.map Cd.d)) → (∀ d ∈ ds, d.Ok ns su) → (su = [] → ds = []) → ds.length ≤ 3 → Q v H'
section
variable {P : Program} {w : World} {K : PySem.W.Frag} {mg : Str → Option Value} {base : Heap}
abbrev s_law_operand : Stmt := topS 27
theorem sc_law_operand : FnScope ["pool", "box", "kind", "word"] ["pool", "box"] (defScope s_law_operand) := ⟨rfl, rfl, rfl, by decide +kernel, rfl, by decide +kernel, by decide +kernel⟩
-- slots: 0:pool 1:box 2:kind 3:word
abbrev s_law_condition : Stmt := topS 28
theorem sc_law_condition : FnScope ["pool", "box", "kind", "first", "key"] ["pool", "box"] (defScope s_law_condition) := ⟨rfl, rfl, rfl, by decide +kernel, rfl, by decide +kernel, by decide +kernel⟩
-- slots: 0:pool 1:box 2:kind 3:first 4:key
abbrev s_law_conditions : Stmt := topS 29
theorem sc_law_conditions : FnScope ["pool", "box", "found", "k", "condition"] ["pool", "box"] (defScope s_law_conditions) := ⟨rfl, rfl, rfl, by decide +kernel, rfl, by decide +kernel, by decide +kernel⟩
-- slots: 0:pool 1:box 2:found 3:k 4:condition
theorem Bx.pickS {H : Hp} {l c : Addr} {A : BxA} {cs : List Con} {ns fr wo su : List Str} (B : Bx K H l c A cs ns fr wo su) (P0 : Pool H l c) (ne : su ≠ []) (le : su.length ≤ 1000) {Q : VK} {E : XK}
    (q : ∀ (H' : Hp) (x : Str), Ext l c H H' → x ∈ su → Q (.str x) H') : spPick K [.ref l, .ref A.su] H Q E := by
  refine ⟨l, c, A.su, su.map V.str, rfl, P0, B.n3.2.2.1, B.hs, fun z => ne (List.map_eq_nil_iff.mp z), by rw [List.length_map]; omega, fun H' i x x1 gx => ?_⟩
  rw [List.getElem?_map] at gx
  cases e : su[i]? with
  | none => rw [e] at gx; cases gx
  | some s => rw [e] at gx; cases gx; exact q H' s x1 (List.mem_of_getElem? e)
theorem Bx.pickN {H : Hp} {l c : Addr} {A : BxA} {cs : List Con} {ns fr wo su : List Str} (B : Bx K H l c A cs ns fr wo su) (P0 : Pool H l c) {Q : VK} {E : XK}
    (q : ∀ (H' : Hp) (x : Str), Ext l c H H' → x ∈ ns → Q (.str x) H') : spPick K [.ref l, .ref A.an] H Q E := by
  have n0 := B.nm.ne0
  have n1 := B.nm.le
  refine ⟨l, c, A.an, ns.map V.str, rfl, P0, B.nm.ne, B.nm.at_, fun z => by rw [List.map_eq_nil_iff] at z; rw [z] at n0; exact absurd n0 (by decide), by rw [List.length_map]; omega, fun H' i x x1 gx => ?_⟩
  rw [List.getElem?_map] at gx
  cases e : ns[i]? with
  | none => rw [e] at gx; cases gx
  | some s => rw [e] at gx; cases gx; exact q H' s x1 (List.mem_of_getElem? e)
theorem ok_operand {f : Addr} {fd : FuncData} (F : Fun K "_law_operand" "_law_operand" s_law_operand f fd) (T : Txt K mg) (C_law_take : C8.Cal P w K mg base 2 "_law_take" (spTake 2) [])
    (C_law_atom : C8.Cal P w K mg base 4 "_law_atom" (spAtom K) []) (C_law_pick : C8.Cal P w K mg base 3 "_law_pick" (spPick K) []) : FnOk P w K mg base CX0 5 f fd ["pool", "box"] (spOperand K) := by
  refine F.ok sc_law_operand (fun vs H Q E h => ?_) (fun cdv A outer s H vs Q E hr h => ?_)
  · obtain ⟨_, _, _, _, _, _, _, _, rfl, _⟩ := h
    rfl
  obtain ⟨l, c, A, cs, ns, fr, wo, su, rfl, P0, B, ne, le, q⟩ := h
  refine ⟨_, (pss_cons (ps_set (i := 2) sc_law_operand.nd rfl (Or.inl rfl) (C8.pe_c C_law_take hr (by decide) rfl (pa_cons (pv 0) (pa_cons pe_int pa_nil))))
    (pss_cons (ps_if (pt_cmpR op_eq (pv 2) pe_int (nomark _)) (pss_one (ps_ret (C8.pe_c C_law_atom hr (by decide) rfl (pa_cons (pv 0) (pa_cons (pe_dget (hu_of hr) (pv 1) pe_str (fun _ _ => rfl)) pa_nil))))) pss_nil)
    (pss_cons (ps_set (i := 3) sc_law_operand.nd rfl (Or.inl rfl) (C8.pe_c C_law_pick hr (by decide) rfl (pa_cons (pv 0) (pa_cons (pe_dget (hu_of hr) (pv 1) pe_str (fun _ _ => rfl)) pa_nil))))
    (pss_cons (ps_if (pt_cmpR op_eq (pv 2) pe_int (nomark _)) (pss_one (ps_ret (pe_tup (pa_cons pe_str (pa_cons (pv 3) (pa_cons (pe_op op_add (C8.pe_c C_law_take hr (by decide) rfl (pa_cons (pv 0) (pa_cons pe_int pa_nil))) pe_int) pa_nil)))))) pss_nil)
    (pss_cons (ps_if (PW.pt (pw_and (pt_cmpR op_eq (pv 2) pe_int (nomark _)) (pw_and1 (pt_cmpR op_eq (C8.pe_c C_law_take hr (by decide) rfl (pa_cons (pv 0) (pa_cons pe_int pa_nil))) pe_int (nomark _))))) (pss_one (ps_ret (pe_tup (pa_cons pe_str (pa_cons (pv 3) (pa_cons (pe_op op_sub (pe_un un_neg pe_int) (C8.pe_c C_law_take hr (by decide) rfl (pa_cons (pv 0) (pa_cons pe_int pa_nil)))) pa_nil)))))) pss_nil)
    (pss_one (ps_ret (pe_tup (pa_cons pe_str (pa_cons (pv 3) pa_nil)))))))))), ?_⟩
  have two : ∀ x y : V, [x, y].length ≤ sizeLine := fun x y => small (by show 2 ≤ _; decide)
  have three : ∀ x y z : V, [x, y, z].length ≤ sizeLine := fun x y z => small (by show 3 ≤ _; decide)
  refine vTake rfl P0 (by decide) (by decide) fun d H1 d0 d1 x1 => ⟨_, rfl, rfl, _, rfl, ?_⟩
  have B1 := B.ext P0 x1
  obtain ⟨_, g2, _, _, g5⟩ := B1.g
  refine ite2 (fun _ => ?_) (fun _ => ?_)
  · refine ⟨_, rfl, _, rfl, A.bx, _, rfl, g2, l, c, A.an, ns, rfl, x1.pool, B1.nm, fun v t H2 x2 da wa => ?_⟩
    exact q v (.tm t) H2 (x1.trans x2) da (.inl wa)
  · refine ⟨_, rfl, _, rfl, A.bx, _, rfl, g5, B1.pickS (E := E) x1.pool ne le fun H2 x x2 hx => ?_⟩
    have x3 := x1.trans x2
    refine ⟨_, rfl, rfl, _, rfl, ite2 (fun _ => ?_) (fun _ => ?_)⟩
    · refine ⟨_, rfl, vTake rfl x3.pool (by decide) (by decide) fun e H3 e0 e1 x4 => ⟨_, _, rfl, rfl, three _ _ _, fun t ht => ?_⟩⟩
      exact q _ (.sum x (e + 1)) _ ((x3.trans x4).new P0 ht) (Dt.mk3 ht (.str _) (.str _) (.int _)) ⟨hx, by omega, by omega, by omega⟩
    · have leaf : ∀ (H3 : Hp), Ext l c H H3 → ∀ t, H3 t = none → Q (.ref t) (upd H3 t (.tup [.str "meta", .str x])) := fun H3 x4 t ht => by
        refine q _ (.tm (.var x)) _ (x4.new P0 ht) ?_ (.inr ⟨x, hx, rfl⟩)
        unfold Op.d Tm.d
        exact Dt.mk2 ht (.str _) (.str _)
      refine ⟨_, rfl, rfl, _, rfl, ite2 (fun _ => ?_) (fun _ => ?_)⟩
      · refine vTake rfl x3.pool (by decide) (by decide) fun e H3 e0 e1 x4 => ⟨rfl, _, rfl, ite2 (fun _ => ?_) (fun _ => ?_)⟩
        · refine ⟨_, rfl, _, rfl, vTake rfl x4.pool (by decide) (by decide) fun e2 H4 e20 e21 x5 => ⟨_, _, rfl, rfl, three _ _ _, fun t ht => ?_⟩⟩
          exact q _ (.sum x (-1 - e2)) _ ((x3.trans (x4.trans x5)).new P0 ht) (Dt.mk3 ht (.str _) (.str _) (.int _)) ⟨hx, by omega, by omega, by omega⟩
        · exact ⟨_, rfl, two _ _, leaf _ (x3.trans x4)⟩
      · exact ⟨_, rfl, two _ _, leaf _ x3⟩
theorem ok_cond {f : Addr} {fd : FuncData} (F : Fun K "_law_condition" "_law_condition" s_law_condition f fd) (C_law_take : C8.Cal P w K mg base 2 "_law_take" (spTake 2) [])
    (C_law_operand : C8.Cal P w K mg base 5 "_law_operand" (spOperand K) []) (C_law_pick : C8.Cal P w K mg base 3 "_law_pick" (spPick K) []) : FnOk P w K mg base CX0 6 f fd ["pool", "box"] (spCond K) := by
  refine F.ok sc_law_condition (fun vs H Q E h => ?_) (fun cdv A outer s H vs Q E hr h => ?_)
  · obtain ⟨_, _, _, _, _, _, _, _, rfl, _⟩ := h
    rfl
  obtain ⟨l, c, A, cs, ns, fr, wo, su, rfl, P0, B, ne, le, q⟩ := h
  refine ⟨_, (pss_cons (ps_set (i := 2) sc_law_condition.nd rfl (Or.inl rfl) (C8.pe_c C_law_take hr (by decide) rfl (pa_cons (pv 0) (pa_cons pe_int pa_nil))))
    (pss_cons (ps_if (pt_cmpR op_lt (pv 2) pe_int (nomark _)) (pss_one (ps_ret (pe_tup (pa_cons pe_str (pa_cons (C8.pe_c C_law_pick hr (by decide) rfl (pa_cons (pv 0) (pa_cons (pe_dget (hu_of hr) (pv 1) pe_str (fun _ _ => rfl)) pa_nil))) pa_nil))))) pss_nil)
    (pss_cons (ps_if (pt_cmpR op_lt (pv 2) pe_int (nomark _)) (pss_one (ps_ret (pe_tup (pa_cons (pe_ix ix_tup (pe_tup (pa_cons pe_str (pa_cons pe_str (pa_cons pe_str pa_nil)))) (pe_op op_sub (pv 2) pe_int) (fun _ _ => rfl)) (pa_cons (C8.pe_c C_law_pick hr (by decide) rfl (pa_cons (pv 0) (pa_cons (pe_dget (hu_of hr) (pv 1) pe_str (fun _ _ => rfl)) pa_nil))) pa_nil))))) pss_nil)
    (pss_cons (ps_if (pt_cmpR op_lt (pv 2) pe_int (nomark _)) (pss_cons (ps_set (i := 3) sc_law_condition.nd rfl (Or.inl rfl) (C8.pe_c C_law_operand hr (by decide) rfl (pa_cons (pv 0) (pa_cons (pv 1) pa_nil))))
    (pss_one (ps_ret (pe_tup (pa_cons (pe_ix ix_tup (pe_tup (pa_cons pe_str (pa_cons pe_str pa_nil))) (pe_op op_sub (pv 2) pe_int) (fun _ _ => rfl)) (pa_cons (pv 3) (pa_cons (C8.pe_c C_law_operand hr (by decide) rfl (pa_cons (pv 0) (pa_cons (pv 1) pa_nil))) pa_nil))))))) pss_nil)
    (pss_cons (ps_set (i := 4) sc_law_condition.nd rfl (Or.inl rfl) (pe_tup (pa_cons pe_str (pa_cons (C8.pe_c C_law_pick hr (by decide) rfl (pa_cons (pv 0) (pa_cons (pe_dget (hu_of hr) (pv 1) pe_str (fun _ _ => rfl)) pa_nil))) pa_nil))))
    (C8.pss_cut (ps_if (pt_cmpR op_eq (C8.pe_c C_law_take hr (by decide) rfl (pa_cons (pv 0) (pa_cons pe_int pa_nil))) pe_int (nomark _)) (pss_one (ps_set (i := 4) sc_law_condition.nd rfl (Or.inl rfl) (pe_tup (pa_cons pe_str (pa_cons (C8.pe_c C_law_pick hr (by decide) rfl (pa_cons (pv 0) (pa_cons (pe_dget (hu_of hr) (pv 1) pe_str (fun _ _ => rfl)) pa_nil))) pa_nil))))) pss_nil)
    (pss_one (ps_ret (pe_tup (pa_cons pe_str (pa_cons (C8.pe_c C_law_pick hr (by decide) rfl (pa_cons (pv 0) (pa_cons (pe_dget (hu_of hr) (pv 1) pe_str (fun _ _ => rfl)) pa_nil))) (pa_cons (pv 4) pa_nil)))))))))))), ?_⟩
  have two : ∀ x y : V, [x, y].length ≤ sizeLine := fun x y => small (by show 2 ≤ _; decide)
  have three : ∀ x y z : V, [x, y, z].length ≤ sizeLine := fun x y z => small (by show 3 ≤ _; decide)
  refine vTake rfl P0 (by decide) (by decide) fun d H1 d0 d1 x1 => ?_
  have B1 := B.ext P0 x1
  obtain ⟨_, g2, _, _, g5⟩ := B1.g
  refine ⟨_, rfl, _, _, rfl, rfl, _, rfl, ite2 (fun _ => ?_) (fun c1 => ?_)⟩
  · refine ⟨_, rfl, _, rfl, A.bx, _, rfl, g5, B1.pickS (E := E) x1.pool ne le fun H2 x x2 hx => ⟨two _ _, fun t ht => ?_⟩⟩
    exact q _ (.one "integer" x) _ ((x1.trans x2).new P0 ht) (Dt.mk2 ht (.str _) (.str _)) ⟨by decide +kernel, hx⟩
  have c1' : ¬ d < 3 := fun z => c1 (decide_eq_true z)
  refine ⟨_, rfl, _, _, rfl, rfl, _, rfl, ite2 (fun c2 => ?_) (fun c2 => ?_)⟩
  · have c2' : d < 6 := of_decide_eq_true c2
    refine ⟨three _ _ _, fun t0 ht0 => ⟨_, rfl, _, _, rfl, rfl, ?_⟩⟩
    have x2 := x1.new (o := .tup [.str "name", .str "address", .str "map"]) P0 ht0
    have hs : SqT K (upd H1 t0 (.tup [.str "name", .str "address", .str "map"])) t0 [.str "name", .str "address", .str "map"] := SqT.of upd_same
    have B2 := B.ext P0 x2
    obtain ⟨_, _, _, _, gs2⟩ := B2.g
    have pk : ∀ (h : Str), h ∈ (["integer", "name", "address", "map"] : List Str) → spPick K [.ref l, .ref A.su] (upd H1 t0 (.tup [.str "name", .str "address", .str "map"])) (fun v H2 => ∀ t, H2 t = none → Q (.ref t) (upd H2 t (.tup [.str h, v]))) E := fun h mh => B2.pickS x2.pool ne le fun H2 x x3 hx t ht => q _ (.one h x) _ ((x2.trans x3).new P0 ht) (Dt.mk2 ht (.str _) (.str _)) ⟨mh, hx⟩
    rcases (by omega : d = 3 ∨ d = 4 ∨ d = 5) with rfl | rfl | rfl
    · refine ⟨t0, _, _, _, rfl, rfl, hs, rfl, _, rfl, _, rfl, A.bx, _, rfl, gs2, B2.pickS (E := E) x2.pool ne le fun H2 x x3 hx => ⟨two _ _, fun t ht => ?_⟩⟩
      exact q _ (.one "name" x) _ ((x2.trans x3).new P0 ht) (Dt.mk2 ht (.str _) (.str _)) ⟨by decide +kernel, hx⟩
    · refine ⟨t0, _, _, _, rfl, rfl, hs, rfl, _, rfl, _, rfl, A.bx, _, rfl, gs2, B2.pickS (E := E) x2.pool ne le fun H2 x x3 hx => ⟨two _ _, fun t ht => ?_⟩⟩
      exact q _ (.one "address" x) _ ((x2.trans x3).new P0 ht) (Dt.mk2 ht (.str _) (.str _)) ⟨by decide +kernel, hx⟩
    · refine ⟨t0, _, _, _, rfl, rfl, hs, rfl, _, rfl, _, rfl, A.bx, _, rfl, gs2, B2.pickS (E := E) x2.pool ne le fun H2 x x3 hx => ⟨two _ _, fun t ht => ?_⟩⟩
      exact q _ (.one "map" x) _ ((x2.trans x3).new P0 ht) (Dt.mk2 ht (.str _) (.str _)) ⟨by decide +kernel, hx⟩
  have c2' : ¬ d < 6 := fun z => c2 (decide_eq_true z)
  refine ⟨_, rfl, _, _, rfl, rfl, _, rfl, ite2 (fun c3 => ?_) (fun c3 => ?_)⟩
  · have c3' : d < 8 := of_decide_eq_true c3
    refine ⟨_, rfl, _, rfl, l, c, A, cs, ns, fr, wo, su, rfl, x1.pool, B1, ne, le, fun v1 o1 H2 x2 d1' w1 => ?_⟩
    refine ⟨two _ _, fun t0 ht0 => ⟨_, rfl, _, _, rfl, rfl, ?_⟩⟩
    have x12 := x1.trans x2
    have x3 := x12.new (o := .tup [.str "equal", .str "less"]) P0 ht0
    have hs : SqT K (upd H2 t0 (.tup [.str "equal", .str "less"])) t0 [.str "equal", .str "less"] := SqT.of upd_same
    have d1n := d1'.new (o := .tup [.str "equal", .str "less"]) ht0
    have B3 := B.ext P0 x3
    rcases (by omega : d = 6 ∨ d = 7) with rfl | rfl
    · refine ⟨t0, _, _, _, rfl, rfl, hs, rfl, _, rfl, _, rfl, _, rfl, l, c, A, cs, ns, fr, wo, su, rfl, x3.pool, B3, ne, le, fun v2 o2 H3 x4 d2' w2 => ⟨three _ _ _, fun t ht => ?_⟩⟩
      exact q _ (.two "equal" o1 o2) _ ((x3.trans x4).new P0 ht) (Dt.mk3 ht (.str _) (d1n.ext x3.pool x4) d2') ⟨by decide +kernel, w1, w2⟩
    · refine ⟨t0, _, _, _, rfl, rfl, hs, rfl, _, rfl, _, rfl, _, rfl, l, c, A, cs, ns, fr, wo, su, rfl, x3.pool, B3, ne, le, fun v2 o2 H3 x4 d2' w2 => ⟨three _ _ _, fun t ht => ?_⟩⟩
      exact q _ (.two "less" o1 o2) _ ((x3.trans x4).new P0 ht) (Dt.mk3 ht (.str _) (d1n.ext x3.pool x4) d2') ⟨by decide +kernel, w1, w2⟩
  · refine ⟨_, rfl, _, rfl, A.bx, _, rfl, g2, B1.pickN (E := E) x1.pool fun H2 x x2 hx => ⟨two _ _, fun t ht => ?_⟩⟩
    have x3 := (x1.trans x2).new (o := .tup [.str "name", .str x]) P0 ht
    have dk0 : Dt K (upd H2 t (.tup [.str "name", .str x])) (.ref t) (Tm.name x).d := by unfold Tm.d; exact Dt.mk2 ht (.str _) (.str _)
    refine ⟨fun σ' H' => ∃ (v : V) (k : Tm), σ' = [some (.ref l), some (.ref A.bx), some (.int d), none, some v] ∧ Ext l c H H' ∧ Dt K H' v k.d ∧ ((∃ s ∈ ns, k = .name s) ∨ ∃ w ∈ su, k = .var w), ?_, ?_⟩
    · refine vTake rfl x3.pool (by decide) (by decide) fun e H3 e0 e1 x4 => ⟨rfl, _, rfl, ite2 (fun _ => ?_) (fun _ => ?_)⟩
      · have x5 := x3.trans x4
        have B5 := B.ext P0 x5
        obtain ⟨_, _, _, _, gs2⟩ := B5.g
        refine ⟨_, rfl, _, rfl, A.bx, _, rfl, gs2, B5.pickS (E := E) x5.pool ne le fun H4 y x6 hy => ⟨two _ _, fun t2 ht2 => ?_⟩⟩
        refine ⟨_, .var y, rfl, (x5.trans x6).new P0 ht2, ?_, .inr ⟨y, hy, rfl⟩⟩
        unfold Tm.d
        exact Dt.mk2 ht2 (.str _) (.str _)
      · exact ⟨_, .name x, rfl, x3.trans x4, dk0.ext x3.pool x4, .inl ⟨x, hx, rfl⟩⟩
    · rintro σ' H' ⟨v, k, rfl, x5, dk, nk⟩
      have B5 := B.ext P0 x5
      obtain ⟨_, _, _, _, gs2⟩ := B5.g
      refine ⟨_, rfl, _, rfl, A.bx, _, rfl, gs2, B5.pickS (E := E) x5.pool ne le fun H4 y x6 hy => ⟨_, rfl, three _ _ _, fun t2 ht2 => ?_⟩⟩
      exact q _ (.has y k) _ ((x5.trans x6).new P0 ht2) (Dt.mk3 ht2 (.str _) (.str _) (dk.ext x5.pool x6)) ⟨hy, nk⟩
theorem ok_conds {f : Addr} {fd : FuncData} (F : Fun K "_law_conditions" "_law_conditions" s_law_conditions f fd) (T : Txt K mg) (C_law_take : C8.Cal P w K mg base 2 "_law_take" (spTake 2) [])
    (C_law_condition : C8.Cal P w K mg base 6 "_law_condition" (spCond K) []) : FnOk P w K mg base CX0 7 f fd ["pool", "box"] (spConds K) := by
  refine F.ok sc_law_conditions (fun vs H Q E h => ?_) (fun cdv A outer s H vs Q E hr h => ?_)
  · obtain ⟨_, _, _, _, _, _, _, _, rfl, _⟩ := h
    rfl
  obtain ⟨l, c, A, cs, ns, fr, wo, su, rfl, P0, B, le, q⟩ := h
  refine ⟨_, (pss_cons (ps_set (i := 2) sc_law_conditions.nd rfl (Or.inl rfl) (pe_lst pa_nil))
    (C8.pss_cut (ps_if (pt_truth (pe_dget (hu_of hr) (pv 1) pe_str (fun _ _ => rfl)) (by intro _; rfl)) (pss_one (ps_for PassesOwn.never rfl (pi_range1 (by rfl) T.z_range (pa_cons (C8.pe_c C_law_take hr (by decide) rfl (pa_cons (pv 0) (pa_cons pe_int pa_nil))) pa_nil)) (pg_name (i := 3) sc_law_conditions.nd rfl (Or.inl rfl)) (pss_cons (ps_set (i := 4) sc_law_conditions.nd rfl (Or.inl rfl) (C8.pe_c C_law_condition hr (by decide) rfl (pa_cons (pv 0) (pa_cons (pv 1) pa_nil))))
    (C8.pss_cut (ps_if (pt_cmpR op_eq (C8.pe_c C_law_take hr (by decide) rfl (pa_cons (pv 0) (pa_cons pe_int pa_nil))) pe_int (nomark _)) (pss_one (ps_set (i := 4) sc_law_conditions.nd rfl (Or.inl rfl) (pe_tup (pa_cons pe_str (pa_cons (pv 4) pa_nil))))) pss_nil)
    (pss_one (ps_expr (pe_bm PySem.F.plainAttrs_list PySem.F.slot_list_append PySem.F.type_list_append mt_append (pv 2) (pa_cons (pv 4) pa_nil)))))))) pss_nil)
    (pss_one (ps_ret (pe_callTy call_tuple_of (by rfl) T.z_tuple (by decide +kernel) (pa_cons (pv 2) pa_nil)))))), ?_⟩
  refine ⟨Nat.zero_le _, fun L hL => ?_⟩
  have x0 := (Ext.refl P0).new (o := .lst []) P0 hL
  have nL : L ≠ l := (P0.ne hL).1
  have B0 := B.ext P0 x0
  obtain ⟨_, _, _, _, g5⟩ := B0.g
  have two : ∀ x y : V, [x, y].length ≤ sizeLine := fun x y => small (by show 2 ≤ _; decide)
  refine ⟨fun σ H' => ∃ (vs : List V) (ds : List Cd) (o3 o4 : Option V), σ = [some (.ref l), some (.ref A.bx), some (.ref L), o3, o4] ∧ Ext l c H H' ∧ H' L = some (.lst vs) ∧ DtAll K H' vs (ds.map Cd.d) ∧ (∀ d ∈ ds, d.Ok ns su) ∧ (su = [] → ds = []) ∧ ds.length ≤ 3, ?_, ?_⟩
  · refine ⟨_, rfl, A.bx, _, rfl, g5, !su.isEmpty, .inl ⟨_, SqL.of B0.hs, by rw [List.isEmpty_map]⟩, ?_⟩
    by_cases ne : su = []
    · subst ne
      exact ⟨[], [], none, none, rfl, x0, upd_same, .nil, fun d h => (nomatch h), fun _ => rfl, Nat.zero_le _⟩
    have hT : (!su.isEmpty) = true := by
      cases su with
      | nil => exact absurd rfl ne
      | cons _ _ => rfl
    rw [hT]
    refine iteT (vTake rfl x0.pool (by decide) (by decide) fun m H1 m0 m1 x1 => ⟨m, rfl, by omega, by omega, for_range (lo := 0) (n := m.toNat) (fun i σ H' => ∃ (vs : List V) (ds : List Cd) (o3 o4 : Option V), σ = [some (.ref l), some (.ref A.bx), some (.ref L), o3, o4] ∧ Ext l c H H' ∧ H' L = some (.lst vs) ∧ DtAll K H' vs (ds.map Cd.d) ∧ (∀ d ∈ ds, d.Ok ns su) ∧ ds.length = i) ?_ ?_ ?_⟩)
    · exact ⟨[], [], none, none, rfl, x0.trans x1, x1.keep _ _ nL upd_same, .nil, fun d h => (nomatch h), rfl⟩
    · rintro i σ H2 hi ⟨vs, ds, o3, o4, rfl, x2, h2, d2, od, ld⟩
      refine ⟨_, rfl, _, rfl, l, c, A, cs, ns, fr, wo, su, rfl, x2.pool, B.ext P0 x2, ne, le, fun v d H3 x3 dd od2 => ?_⟩
      have y3 := x2.trans x3
      refine ⟨fun σ H' => ∃ (v : V) (d : Cd), σ = [some (.ref l), some (.ref A.bx), some (.ref L), some (.int (0 + (i : Int))), some v] ∧ Ext l c H H' ∧ H' L = some (.lst vs) ∧ DtAll K H' vs (ds.map Cd.d) ∧ Dt K H' v d.d ∧ d.Ok ns su, ?_, ?_⟩
      · refine vTake rfl y3.pool (by decide) (by decide) fun e H4 e0 e1 x4 => ⟨rfl, _, rfl, ite2 (fun _ => ?_) (fun _ => ?_)⟩
        · refine ⟨_, rfl, two _ _, fun t ht => ?_⟩
          have y4 := x3.trans x4
          have y5 := y4.new (o := .tup [.str "not", v]) x2.pool ht
          exact ⟨_, .neg d, rfl, (y3.trans x4).new P0 ht, y5.keep _ _ nL h2, d2.ext x2.pool y5, Dt.mk2 ht (.str _) (dd.ext x3.pool x4), od2⟩
        · exact ⟨_, d, rfl, y3.trans x4, (x3.trans x4).keep _ _ nL h2, d2.ext x2.pool (x3.trans x4), dd.ext x3.pool x4, Cd.pos_ok od2⟩
      · rintro σ H5 ⟨v5, d5, rfl, x5, h5, dv5, dd5, od5⟩
        have lvs : vs.length = ds.length := by rw [d2.lenD, List.length_map]
        refine ⟨_, rfl, .inl ⟨rfl, _, SqL.of h5⟩, _, rfl, L, _, _, rfl, rfl, h5, smallL (by omega), _, ds ++ [d5], _, _, rfl, ⟨fun b o hb ho => ?_, x5.pool.upd nL (P0.ne hL).2⟩, upd_same, ?_, fun d hd => ?_, by rw [List.length_append, ld]; rfl⟩
        · have : b ≠ L := fun z => by rw [z, hL] at ho; cases ho
          rw [upd_ne this]; exact x5.keep b o hb ho
        · rw [List.map_append]; exact (dv5.append (.cons dd5 .nil)).upd h5
        · rcases List.mem_append.mp hd with z | z
          · exact od d z
          · rw [List.mem_singleton.mp z]; exact od5
    · rintro σ H2 ⟨vs, ds, o3, o4, rfl, x2, h2, d2, od, ld⟩
      exact ⟨vs, ds, _, _, rfl, x2, h2, d2, od, fun z => absurd z ne, by omega⟩
  · rintro σ H2 ⟨vs, ds, o3, o4, rfl, x2, h2, d2, od, e0, ld⟩
    refine ⟨_, rfl, L, vs, rfl, .inl ⟨SqL.of h2, fun u hu => ?_⟩⟩
    exact q _ ds _ (x2.new P0 hu) (.tup (SqT.of upd_same) (d2.ext x2.pool ((Ext.refl x2.pool).new x2.pool hu))) od e0 ld
theorem ok_pattern {f : Addr} {fd : FuncData} (F : Fun K "_law_pattern" "_law_pattern" s_law_pattern f fd) (T : Txt K mg) (C_law_of_kind : C8.Cal P w K mg base 1 "_law_of_kind" (spKind K) []) (C_law_pick : C8.Cal P w K mg base 3 "_law_pick" (spPick K) [])
    (C_law_part : C8.Cal P w K mg base 7 "_law_part" (spPart K 3) []) : FnOk P w K mg base CX0 8 f fd ["pool", "box"] (spPat K) := by
  refine F.ok sc_law_pattern (fun vs H Q E h => ?_) (fun cdv A outer s H vs Q E hr h => ?_)
  · obtain ⟨_, _, _, _, _, _, rfl, _⟩ := h
    rfl
  obtain ⟨l, c, A, cs, ns, fr, rfl, P0, bx, ck, lf, q⟩ := h
  refine ⟨_, (pss_cons (ps_set (i := 2) sc_law_pattern.nd rfl (Or.inl rfl) (C8.pe_c C_law_pick hr (by decide) rfl (pa_cons (pv 0) (pa_cons (C8.pe_c C_law_of_kind hr (by decide) rfl (pa_cons (pv 1) (pa_cons pe_str pa_nil))) pa_nil))))
    (pss_cons (ps_set (i := 3) sc_law_pattern.nd rfl (Or.inl rfl) (pe_lst pa_nil))
    (pss_cons (ps_for PassesOwn.never rfl (pi_range1 (by rfl) T.z_range (pa_cons (pe_ix ix_tup (pv 2) pe_int (fun _ _ => rfl)) pa_nil)) (pg_name (i := 4) sc_law_pattern.nd rfl (Or.inl rfl)) (pss_one (ps_expr (pe_bm PySem.F.plainAttrs_list PySem.F.slot_list_append PySem.F.type_list_append mt_append (pv 3) (pa_cons (C8.pe_c C_law_part hr (by decide) rfl (pa_cons (pv 0) (pa_cons (pv 1) (pa_cons (pe_cmpR op_in_seq (pv 4) (pe_ix ix_tup (pv 2) pe_int (fun _ _ => rfl)) rfl) (pa_cons pe_int pa_nil))))) pa_nil)))))
    (pss_one (ps_ret (pe_tup (pa_cons pe_str (pa_cons (pe_ix ix_tup (pv 2) pe_int (fun _ _ => rfl)) (pa_cons (pe_callTy call_tuple_of (by rfl) T.z_tuple (by decide +kernel) (pa_cons (pv 3) pa_nil)) pa_nil))))))))), ?_⟩
  have three : ∀ x y z : V, [x, y, z].length ≤ sizeLine := fun x y z => small (by show 3 ≤ _; decide)
  refine ⟨_, rfl, _, rfl, l, c, A, cs, ns, fr, [], [], "plain", rfl, bx, ck.le, fun H2 p rv2 s2 hp0 hp dxs => ?_⟩
  have x2 : Ext l c H H2 := (Ext.refl P0).same s2
  have np : p ≠ l := (P0.ne hp0).1
  have lrv : rv2.length = (cs.filter fun x => decide (x.kd = ("plain" : Str))).length := by rw [dxs.lenD, List.length_map]
  have lfi := List.length_filter_le (fun x : Con => decide (x.kd = ("plain" : Str))) cs
  have lcs := ck.le
  refine ⟨l, c, p, rv2, rfl, x2.pool, np, hp, (fun z => ?_), by omega, fun H3 j x x3 gx => ?_⟩
  · rw [z] at lrv
    obtain ⟨x, hx, kx⟩ := ck.pl
    have : x ∈ cs.filter fun x => decide (x.kd = ("plain" : Str)) := List.mem_filter.mpr ⟨hx, decide_eq_true kx⟩
    rw [List.length_eq_zero_iff.mp lrv.symm] at this; cases this
  obtain ⟨dd, gd, dx⟩ := (dxs.ext x2.pool x3).getX gx
  rw [List.getElem?_map] at gd
  cases e0 : (cs.filter fun x => decide (x.kd = ("plain" : Str)))[j]? with
  | none => rw [e0] at gd; cases gd
  | some y =>
  rw [e0] at gd
  cases gd
  obtain ⟨a, bb, rfl, hs, hb2⟩ := Con.get4 dx
  have my := List.mem_filter.mp (List.mem_of_getElem? e0)
  have hyc := my.1
  have hyk : y.kd = ("plain" : Str) := of_decide_eq_true my.2
  have yok := ck.ok y hyc
  have xx := x2.trans x3
  refine ⟨Nat.zero_le _, fun L hL => ?_⟩
  have hLH : H L = none := xx.free P0 hL
  have x4 := xx.new (o := .lst []) P0 hL
  have nL : L ≠ l ∧ L ≠ c ∧ L ≠ A.ar ∧ L ≠ A.an ∧ L ≠ A.af ∧ L ≠ A.aw ∧ L ≠ A.su := by
    obtain ⟨rv, hr2, _⟩ := bx.rv
    exact ⟨(P0.ne hLH).1, (P0.ne hLH).2, (ne_of_none hr2 hLH).symm, (ne_of_none bx.nm.at_ hLH).symm, (ne_of_none bx.hf hLH).symm, (ne_of_none bx.hw hLH).symm, (ne_of_none bx.hs hLH).symm⟩
  have hs4 : SqT K (upd H3 L (.lst [])) a _ := Same.seqT (same_new hL) hs
  refine vTx rfl hs4 rfl ⟨_, rfl, by omega, by have := yok.ar; omega, for_range (lo := 0) (n := y.ar) (fun i σ H' => ∃ (vs : List V) (ts : List Tm) (fr' : List Str) (o : Option V), σ = [some (.ref l), some (.ref A.bx), some (.ref a), some (.ref L), o] ∧ ts.length = i ∧ PtsD K l c A cs ns fr [] [] true y 3 H H' L vs ts fr' ∧ (∀ g xs, SqT K (upd H3 L (.lst [])) g xs → SqT K H' g xs)) ?_ ?_ ?_⟩
  · refine ⟨[], [], fr, none, rfl, rfl, ⟨ExB.of x4, ?_, upd_same, .nil, by simp, fun i k hk => by simp at hk, fun k hk => by cases hk⟩, fun _ _ z => z⟩
    have := bx.ext P0 x4
    simpa using this
  · rintro i σ H' hi ⟨vs, ts, fr', o, rfl, lts, D, sq⟩
    have lfr : fr.length = fr'.length + ((ts.map pwd).flatten).length := by have := congrArg List.length D.fr; simpa using this
    have lsw := swd_len (cs := cs) (t := .node y.nm ts) (b := true)
    rw [swd_node, pwd_node] at lsw
    have eip : inPl cs y.nm ts.length = decide ((0 + (i : Int)) ∈ y.pl) := by
      unfold inPl
      rw [conOf_mem ck.nd hyc, lts, Int.zero_add]
    have lvs : vs.length = ts.length := by rw [D.dt.lenD, List.length_map]
    have hs' := sq _ _ hs4
    have hb' : SqT K H' bb (y.pl.map .int) := sq _ _ (Same.seqT (same_new hL) hb2)
    refine ⟨_, rfl, .inl ⟨rfl, _, SqL.of D.at_⟩, _, rfl, _, rfl, _, rfl, vTx rfl hs' rfl ⟨bb, _, rfl, .inr hb', rfl, flat_ints _, ?_⟩⟩
    rw [inV_int]
    refine ⟨l, c, A, cs, ns, fr', _, _, _, 2, rfl, D.ex.pool, D.bx, ck, by omega, by rw [List.nil_append]; omega, by simpa using lsw, by decide, fun H2 v t fr2 h1 h2 h3 h4 h5 h6 => ?_⟩
    have eb : (if false = true then !decide ((0 + (i : Int)) ∈ y.pl) else decide ((0 + (i : Int)) ∈ y.pl)) = (true && inPl cs y.nm ts.length) := by rw [eip]; rfl
    rw [eb] at h2 h5
    have hL2 := h1.keep _ _ nL.1 nL.2.2.2.2.1 nL.2.2.2.2.2.1 nL.2.2.2.2.2.2 D.at_
    exact ⟨L, _, _, rfl, rfl, hL2, smallL (by have := yok.ar; omega), _, _, _, _, rfl, by rw [List.length_append, lts]; rfl, D.step nL P0 hLH h1 h2 h3 h4 h5 h6, fun g xs z => seqT_upd (h1.seqT D.ex.pool D.bx (sq _ _ z)) hL2⟩
  · rintro σ H' ⟨vs, ts, fr', o, rfl, lts, D, sq⟩
    refine vTx rfl (sq _ _ hs4) rfl ⟨_, rfl, L, vs, rfl, .inl ⟨SqL.of D.at_, fun u hu => ⟨three _ _ _, fun t ht => ?_⟩⟩⟩
    have lvs : vs.length = ts.length := by rw [D.dt.lenD, List.length_map]
    have y5 := (Ext.refl D.ex.pool).new (o := .tup vs) D.ex.pool hu
    have y6 := y5.new (o := .tup [.str "node", .str y.nm, .ref u]) D.ex.pool ht
    refine q _ _ (.node y.nm ts) fr' (D.ex.trans (ExB.of y6)) ?_ ?_ ?_ ⟨⟨y, ts, rfl, hyc, hyk, lts, fun i k hk => by have := D.ok i k hk; rwa [Bool.true_and] at this⟩, Tm.ht_le D.ht⟩
    · rw [pwd_node, swd_node]
      have := D.bx.ext D.ex.pool y6
      simpa using this
    · rw [pwd_node]; exact D.fr
    · unfold Tm.d
      rw [Tm.ds_map]
      exact Dt.mk3 ht (.str _) (.str _) (.tup (SqT.of upd_same) (D.dt.ext D.ex.pool y5))
end
end PK
namespace PK
open PySem L2
/-! equality of data that are texts, integers and tuples of such -/
theorem eqU {k : Nat} {A : Around} (hr : Room k A) : A.units + 190 < cLine := by have := hr.un; omega
theorem inU {k : Nat} {A : Around} (hr : Room k A) : A.units + 65 < cLine := by have := hr.un; omega
mutual
def pln : PyData → Bool
  | .int _ => true
  | .str x => PyData.strOk x
  | .tuple ds => plnAll ds
  | _ => false
def plnAll : List PyData → Bool
  | [] => true
  | d :: r => pln d && plnAll r
end
mutual
theorem eqv_pln : ∀ d e : PyData, pln d = true → pln e = true → (PyData.eqv d e = true ↔ d = e)
  | .int i, e, _, h => by
    cases e with
    | int j => unfold PyData.eqv; simp
    | str j => unfold PyData.eqv; simp
    | tuple j => unfold PyData.eqv; simp
    | _ => simp [pln] at h
  | .str i, e, _, h => by
    cases e with
    | int j => unfold PyData.eqv; simp
    | str j => unfold PyData.eqv; simp
    | tuple j => unfold PyData.eqv; simp
    | _ => simp [pln] at h
  | .tuple ds, e, hd, h => by
    cases e with
    | int j => unfold PyData.eqv; simp
    | str j => unfold PyData.eqv; simp
    | tuple es =>
      unfold PyData.eqv
      rw [eqv_plnAll ds es (by simpa [pln] using hd) (by simpa [pln] using h)]
      simp
    | _ => simp [pln] at h
  | .none, _, h, _ => by simp [pln] at h
  | .bool _, _, h, _ => by simp [pln] at h
  | .list _, _, h, _ => by simp [pln] at h
  | .dict _, _, h, _ => by simp [pln] at h
theorem eqv_plnAll : ∀ ds es : List PyData, plnAll ds = true → plnAll es = true → (PyData.eqvAll ds es = true ↔ ds = es)
  | [], [], _, _ => by unfold PyData.eqvAll; simp
  | [], e :: es, _, _ => by unfold PyData.eqvAll; simp
  | d :: ds, [], _, _ => by unfold PyData.eqvAll; simp
  | d :: ds, e :: es, h1, h2 => by
    rw [plnAll, Bool.and_eq_true] at h1 h2
    unfold PyData.eqvAll
    rw [Bool.and_eq_true, eqv_pln d e h1.1 h2.1, eqv_plnAll ds es h1.2 h2.2]
    simp
end
mutual
theorem pln_lay : ∀ d : PyData, pln d = true → d.canLay0 = true
  | .int _, _ => by unfold PyData.canLay0; rfl
  | .str _, h => by unfold PyData.canLay0; simpa [pln] using h
  | .tuple ds, h => by unfold PyData.canLay0; exact plnAll_lay ds (by simpa [pln] using h)
  | .none, h => by simp [pln] at h
  | .bool _, h => by simp [pln] at h
  | .list _, h => by simp [pln] at h
  | .dict _, h => by simp [pln] at h
theorem plnAll_lay : ∀ ds : List PyData, plnAll ds = true → PyData.canLayAll0 ds = true
  | [], _ => by unfold PyData.canLayAll0; rfl
  | d :: ds, h => by
    rw [plnAll, Bool.and_eq_true] at h
    unfold PyData.canLayAll0
    rw [pln_lay d h.1, plnAll_lay ds h.2]; rfl
end
theorem eqv_no {d e : PyData} (h1 : pln d = true) (h2 : pln e = true) (h : d ≠ e) : PyData.eqv d e = false := by
  cases z : PyData.eqv d e with
  | false => rfl
  | true => exact absurd ((eqv_pln d e h1 h2).mp z) h
abbrev SOk (x : Str) : Prop := PyData.strOk x = true
theorem Wd.sok {x : Str} (h : Wd x) : SOk x := by
  have key : ∀ s ∈ OTH.cps.toList, s < 0x110000 := by decide +kernel
  show x.cps.all (· < 0x110000) = true
  rw [← Array.all_toList, List.all_eq_true]
  exact fun s hs => decide_eq_true (key s (h.al s hs))
def Op.occ (w : Str) : Op → Bool
  | .tm (.var s) => decide (s = w)
  | .tm _ => false
  | .sum s _ => decide (s = w)
theorem pln2 {a b : Str} (ha : SOk a) (hb : SOk b) : pln (.tuple [.str a, .str b]) = true := by simp [pln, plnAll, ha, hb]
theorem plnI {a : Str} {n : Int} (ha : SOk a) : pln (.tuple [.str a, .int n]) = true := by simp [pln, plnAll, ha]
theorem sk (x : Str) (h : x ∈ (["int", "name", "addr", "meta", "sum", "not", "has", "integer", "address", "map", "equal", "less"] : List Str)) : SOk x := by
  have : ∀ x ∈ (["int", "name", "addr", "meta", "sum", "not", "has", "integer", "address", "map", "equal", "less"] : List Str), SOk x := by decide +kernel
  exact this x h
theorem Op.pln_ok {ns su : List Str} {o : Op} (h : o.Ok ns su) (hn : ∀ x ∈ ns, SOk x) (hs : ∀ x ∈ su, SOk x) : pln o.d = true := by
  cases o with
  | sum s n => unfold Op.d; simp [pln, plnAll, sk "sum" (by decide +kernel), hs s h.1]
  | tm t =>
    rcases h with h | ⟨s, ms, rfl⟩
    · cases t with
      | int n => unfold Op.d Tm.d; exact plnI (sk _ (by decide +kernel))
      | addr n => unfold Op.d Tm.d; exact plnI (sk _ (by decide +kernel))
      | name s => unfold Op.d Tm.d; exact pln2 (sk _ (by decide +kernel)) (hn s h)
      | _ => exact h.elim
    · unfold Op.d Tm.d; exact pln2 (sk _ (by decide +kernel)) (hs s ms)
theorem Op.parts {ns su : List Str} {o : Op} (h : o.Ok ns su) : (∃ s n, o = .sum s n) ∨ ∃ hd x, o.d = .tuple [.str hd, x] ∧ hd ≠ ("sum" : Str) := by
  cases o with
  | sum s n => exact .inl ⟨s, n, rfl⟩
  | tm t =>
    refine .inr ?_
    rcases h with h | ⟨s, ms, rfl⟩
    · cases t with
      | int n => exact ⟨_, _, by unfold Op.d Tm.d; rfl, by decide +kernel⟩
      | addr n => exact ⟨_, _, by unfold Op.d Tm.d; rfl, by decide +kernel⟩
      | name s => exact ⟨_, _, by unfold Op.d Tm.d; rfl, by decide +kernel⟩
      | _ => exact h.elim
    · exact ⟨_, _, by unfold Op.d Tm.d; rfl, by decide +kernel⟩
theorem Op.meta {ns su : List Str} {o : Op} (h : o.Ok ns su) {w : Str} : o.d = .tuple [.str "meta", .str w] ↔ o = .tm (.var w) := by
  refine ⟨fun e => ?_, fun e => by rw [e]; unfold Op.d Tm.d; rfl⟩
  cases o with
  | sum s n => unfold Op.d at e; simp at e
  | tm t =>
    rcases h with h | ⟨s, ms, rfl⟩
    · cases t with
      | int n => unfold Op.d Tm.d at e; simp at e
      | addr n => unfold Op.d Tm.d at e; simp at e
      | name s => unfold Op.d Tm.d at e; simp only [PyData.tuple.injEq, List.cons.injEq, PyData.str.injEq] at e; exact absurd e.1 (by decide +kernel)
      | _ => exact h.elim
    · unfold Op.d Tm.d at e; simp only [PyData.tuple.injEq, List.cons.injEq, PyData.str.injEq] at e; rw [e.2.1]
/-- one operand is asked -/
theorem occ_elem {K : PySem.W.Frag} {ns su : List Str} {σ : L2.St} {H : Hp} {Q : VK} {v : V} {w : Str} {o : Op} (h1 : σ[1]? = some (some (.str w))) (h2 : σ[2]? = some (some v)) (dv : Dt K H v o.d) (ok : o.Ok ns su) (hn : ∀ x ∈ ns, SOk x) (hs : ∀ x ∈ su, SOk x) (hw : SOk w)
    (q : ∀ H', Same H H' → Q (.bl (o.occ w)) H') :
    tOrV (tOp (PKE.rEqN K 190) (tVar 2) (tTup (tCons (tC (.str "meta")) (tCons (tVar 1) tNil)))) (tOp (PKE.rEqN K 190) (tSl (rSlA K) (tVar 2) tNoPart (tPart (tC (.int 2)))) (tTup (tCons (tC (.str "sum")) (tCons (tVar 1) tNil)))) σ H Q := by
  have two : ∀ x y : V, [x, y].length ≤ sizeLine := fun x y => small (by show 2 ≤ _; decide)
  have po := Op.pln_ok ok hn hs
  have pm : pln (.tuple [.str "meta", .str w]) = true := pln2 (sk _ (by decide +kernel)) hw
  have ps : pln (.tuple [.str "sum", .str w]) = true := pln2 (sk _ (by decide +kernel)) hw
  refine ⟨_, h2, _, h1, two _ _, fun t ht => ⟨o.d, .tuple [.str "meta", .str w], (dv.new ht).dp _ _, (Dt.mk2 ht (.str _) (.str _)).dp _ _, pln_lay _ po, pln_lay _ pm, .inr (by show max 0 (max 0 0) + 1 ≤ 190; decide), _, rfl, ?_⟩⟩
  by_cases e : o = .tm (.var w)
  · rw [(eqv_pln _ _ po pm).mpr ((Op.meta ok).mpr e)]
    have := q (upd H t (.tup [.str "meta", .str w])) (same_new ht)
    rw [e] at this
    simp only [Op.occ, decide_true] at this
    exact iteT this
  rw [eqv_no po pm fun z => e ((Op.meta ok).mp z)]
  refine iteF ?_
  have s1 : Same H (upd H t (.tup [.str "meta", .str w])) := same_new ht
  rcases Op.parts ok with ⟨s, n, rfl⟩ | ⟨hd, x, ed, ne⟩
  · obtain ⟨a, _, _, _, rfl, hsq, e1, e2, e3⟩ := Dt.t3 (d := .str "sum") (e := .str s) (f := .int n) dv
    rw [e1.s, e2.s, e3.i] at hsq
    refine ⟨_, h2, _, rfl, a, _, rfl, Same.seqT s1 hsq, fun z => absurd z.2 (by show ¬ HT.sIx 3 3 (some 2) = 3; decide), fun _ t2 ht2 => ⟨_, h1, two _ _, fun t3 ht3 => ⟨.tuple [.str "sum", .str s], .tuple [.str "sum", .str w], ?_, (Dt.mk2 ht3 (.str _) (.str _)).dp _ _, ?_, pln_lay _ ps, .inr (by show max 0 (max 0 0) + 1 ≤ 190; decide), ?_⟩⟩⟩
    · exact ((Dt.mk2 ht2 (.str _) (.str _)).new ht3).dp _ _
    · exact pln_lay _ (pln2 (sk _ (by decide +kernel)) (hs s ok.1))
    · have e : PyData.eqv (.tuple [.str "sum", .str s]) (.tuple [.str "sum", .str w]) = decide (s = w) := by
        by_cases z : s = w
        · rw [decide_eq_true z]; exact (eqv_pln _ _ (pln2 (sk _ (by decide +kernel)) (hs s ok.1)) ps).mpr (by rw [z])
        · rw [decide_eq_false z]; exact eqv_no (pln2 (sk _ (by decide +kernel)) (hs s ok.1)) ps fun y => z (by simpa using y)
      rw [e]
      exact q _ ((s1.trans (same_new ht2)).trans (same_new ht3))
  · rw [ed] at dv
    obtain ⟨a, x1, x2, rfl, hsq, e1, e2⟩ := Dt.t2 dv
    have nocc : o.occ w = false := by
      cases o with
      | sum s n => unfold Op.d at ed; simp at ed
      | tm t => cases t with
        | var s => exact decide_eq_false fun z => e (by rw [z])
        | _ => rfl
    refine ⟨_, h2, _, rfl, a, _, rfl, Same.seqT s1 hsq, fun _ => ⟨_, h1, two _ _, fun t3 ht3 => ⟨o.d, .tuple [.str "sum", .str w], ?_, (Dt.mk2 ht3 (.str _) (.str _)).dp _ _, pln_lay _ po, pln_lay _ ps, .inr (by show max 0 (max 0 0) + 1 ≤ 190; decide), ?_⟩⟩, fun z => absurd ⟨rfl, rfl⟩ z⟩
    · rw [ed]; exact ((dv.same s1).new ht3).dp _ _
    · have : PyData.eqv o.d (.tuple [.str "sum", .str w]) = false := eqv_no po ps fun y => ne (by rw [ed] at y; simp at y; exact y.1)
      rw [this]
      have := q _ (s1.trans (same_new (o := .tup [.str "sum", .str w]) ht3))
      rw [nocc] at this
      exact this
def spOcc (K : PySem.W.Frag) : Sp := fun vs H Q _ => ∃ (v : V) (h w : Str) (a b : Op) (ns su : List Str), vs = [v, .str w] ∧ Dt K H v (Cd.two h a b).d ∧ a.Ok ns su ∧ b.Ok ns su ∧ (∀ x ∈ ns, SOk x) ∧ (∀ x ∈ su, SOk x) ∧ SOk w ∧ ∀ H', Same H H' → Q (.bl (a.occ w || b.occ w)) H'
section
variable {P : Program} {w : World} {K : PySem.W.Frag} {mg : Str → Option Value} {base : Heap}
abbrev s_law_occurs : Stmt := topS 30
theorem sc_law_occurs : FnScope ["condition", "word", "part"] ["condition", "word"] (defScope s_law_occurs) := ⟨rfl, rfl, rfl, by decide +kernel, rfl, by decide +kernel, by decide +kernel⟩
-- slots: 0:condition 1:word(cell) 2:part(comp)
theorem ok_occurs {f : Addr} {fd : FuncData} (F : Fun K "_law_occurs" "_law_occurs" s_law_occurs f fd) (T : Txt K mg) : FnOk P w K mg base CX0 1 f fd ["condition", "word"] (spOcc K) := by
  refine F.ok sc_law_occurs (fun vs H Q E h => ?_) (fun cdv A outer s H vs Q E hr h => ?_)
  · obtain ⟨_, _, _, _, _, _, _, rfl, _⟩ := h
    rfl
  obtain ⟨v, hh, wd, a, b, ns, su, rfl, dv, oa, ob, hn, hs, hw, q⟩ := h
  refine ⟨_, (pss_one (ps_ret (pe_callB (cr_any (by rfl)) (by rfl) T.z_any (by decide +kernel) (pa_cons (pe_lc (own := [("part", 2)]) (g := (gName 2)) (tt := tYes) (by rfl) sc_law_occurs.nd (pi_tup (pe_slice sl_tup (pv 0) (po_some pe_int) po_none)) (blkOk_by (N := ["condition", "word", "part"]) (sc := defScope s_law_occurs) (by decide +kernel)) (fun _ _ _ _ _ => (pg_name (i := 2) sc_law_occurs.nd rfl (Or.inl rfl))) (fun _ _ _ _ _ => pts_nil) (fun _ _ _ _ _ => (pe_or (pe_cmpR (r := PKE.rEqN K 190) (PKE.op_eqN (n := 190) (eqU hr)) (pv 2) (pe_tup (pa_cons pe_str (pa_cons (pv 1) pa_nil))) (nomark _)) (pe_one (pe_cmpR (r := PKE.rEqN K 190) (PKE.op_eqN (n := 190) (eqU hr)) (pe_slice (r := rSlA K) sl_tupA (pv 2) po_none (po_some pe_int)) (pe_tup (pa_cons pe_str (pa_cons (pv 1) pa_nil))) (nomark _)))))) pa_nil)))), ?_⟩
  obtain ⟨p, x0, x1, x2, rfl, hsq, e1, e2, e3⟩ := Dt.t3 dv
  refine ⟨_, rfl, _, rfl, p, _, rfl, hsq, fun z => absurd z.1 (by show ¬ HT.sIx 3 0 (some 1) = 0; decide), fun pt hpt => ?_⟩
  have s0 : Same H (upd H pt (.tup [x1, x2])) := same_new hpt
  refine ⟨pt, rfl, ⟨[x1, x2], SqT.of upd_same⟩, fun D hD => lc_it (walk_tup (K := K) (xs := [x1, x2])) (fun i H' => Same (upd H pt (.tup [x1, x2])) H' ∧ H' D = some (.lst ((([a.occ wd, b.occ wd] : List Bool).take i).map V.bl))) ⟨same_new hD, upd_same⟩ (fun i H' _ h => Same.seqT h.1 (SqT.of upd_same)) ?_ ?_⟩
  · rintro i x H1 H2 hi ⟨s1, h1⟩ ⟨rfl, gx⟩
    have sa := s0.trans s1
    obtain ⟨o, d1, ok1, et⟩ : ∃ o : Op, Dt K H x o.d ∧ o.Ok ns su ∧ (([a.occ wd, b.occ wd] : List Bool).take (i + 1)) = ([a.occ wd, b.occ wd] : List Bool).take i ++ [o.occ wd] := by
      rcases (by have : i < 2 := hi; omega : i = 0 ∨ i = 1) with rfl | rfl
      · cases gx; exact ⟨a, e2, oa, rfl⟩
      · cases gx; exact ⟨b, e3, ob, rfl⟩
    refine ⟨rfl, iteT (B := True) (occ_elem (ns := ns) (su := su) rfl rfl (d1.same sa) ok1 hn hs hw fun H3 s3 => ?_)⟩
    have hD3 := s3 _ _ h1
    have lv : ((([a.occ wd, b.occ wd] : List Bool).take i).map V.bl).length < sizeLine := smallL (by rw [List.length_map]; have := List.length_take_le i ([a.occ wd, b.occ wd] : List Bool); have h2 : i < 2 := hi; omega)
    exact ⟨_, hD3, lv, Same.upd (s1.trans s3) hD, by rw [et, List.map_append]; exact upd_same⟩
  · rintro H1 ⟨s1, h1⟩
    refine ⟨D, [a.occ wd, b.occ wd], rfl, SqL.of h1, ?_⟩
    have := q H1 (s0.trans s1)
    simpa using this
end
end PK
namespace PK
open PySem L2
/-! what sort a word has -/
def Cd.isPos : Cd → Bool
  | .neg _ => false
  | _ => true
def told (ds : List Cd) : List Cd := ds.filter Cd.isPos
def Cd.isI (w : Str) : Cd → Bool
  | .one h x => decide (h = ("integer" : Str)) && decide (x = w)
  | .two h a b => decide (h = ("less" : Str)) && (a.occ w || b.occ w)
  | _ => false
def Cd.isN (w : Str) : Cd → Bool
  | .one h x => decide (h = ("name" : Str)) && decide (x = w)
  | .has _ (.var s) => decide (s = w)
  | _ => false
def Cd.isM (w : Str) : Cd → Bool
  | .one h x => decide (h = ("map" : Str)) && decide (x = w)
  | .has x _ => decide (x = w)
  | _ => false
def Cd.isA (w : Str) : Cd → Bool
  | .one h x => decide (h = ("address" : Str)) && decide (x = w)
  | _ => false
def sortOf (ds : List Cd) (su : List Str) (w : Str) : Str :=
  if (told ds).any (Cd.isI w) = true then "integer" else if (told ds).any (Cd.isN w) = true then "name" else if (told ds).any (Cd.isM w) = true then "map" else if (told ds).any (Cd.isA w) = true then "address" else if w ∈ su then "value" else "any"
theorem Op.dep {ns su : List Str} {o : Op} (h : o.Ok ns su) : o.d.depth ≤ 2 := by
  cases o with
  | sum s n => unfold Op.d; show max 0 (max 0 (max 0 0)) + 1 ≤ 2; decide
  | tm t =>
    rcases h with h | ⟨s, ms, rfl⟩
    · cases t with
      | int n => unfold Op.d Tm.d; show max 0 (max 0 0) + 1 ≤ 2; decide
      | addr n => unfold Op.d Tm.d; show max 0 (max 0 0) + 1 ≤ 2; decide
      | name s => unfold Op.d Tm.d; show max 0 (max 0 0) + 1 ≤ 2; decide
      | _ => exact h.elim
    · unfold Op.d Tm.d; show max 0 (max 0 0) + 1 ≤ 2; decide
theorem HEADS_sk {h : Str} (m : h ∈ (["integer", "name", "address", "map"] : List Str)) : SOk h := sk h (by
  have : ∀ x ∈ (["integer", "name", "address", "map"] : List Str), x ∈ (["int", "name", "addr", "meta", "sum", "not", "has", "integer", "address", "map", "equal", "less"] : List Str) := by decide +kernel
  exact this h m)
theorem EL_sk {h : Str} (m : h ∈ (["equal", "less"] : List Str)) : SOk h := sk h (by
  have : ∀ x ∈ (["equal", "less"] : List Str), x ∈ (["int", "name", "addr", "meta", "sum", "not", "has", "integer", "address", "map", "equal", "less"] : List Str) := by decide +kernel
  exact this h m)
theorem key_ok {ns su : List Str} {k : Tm} (h : (∃ s ∈ ns, k = .name s) ∨ ∃ w ∈ su, k = .var w) : Op.Ok ns su (.tm k) := by
  rcases h with ⟨s, m, rfl⟩ | ⟨s, m, rfl⟩
  · exact .inl m
  · exact .inr ⟨s, m, rfl⟩
theorem Cd.sh {ns su : List Str} {c : Cd} (h : c.pos ns su) (hn : ∀ x ∈ ns, SOk x) (hs : ∀ x ∈ su, SOk x) : pln c.d = true ∧ c.d.depth ≤ 4 := by
  cases c with
  | one x y => exact ⟨pln2 (HEADS_sk h.1) (hs _ h.2), by show max 0 (max 0 0) + 1 ≤ 4; decide⟩
  | two x a b =>
    obtain ⟨h1, h2, h3⟩ := h
    have d1 := Op.dep h2
    have d2 := Op.dep h3
    refine ⟨by unfold Cd.d; simp [pln, plnAll, EL_sk h1, Op.pln_ok h2 hn hs, Op.pln_ok h3 hn hs], ?_⟩
    show max 0 (max a.d.depth (max b.d.depth 0)) + 1 ≤ 4
    omega
  | has x k =>
    have d1 := Op.dep (key_ok h.2)
    refine ⟨by have := Op.pln_ok (key_ok h.2) hn hs; unfold Op.d at this; unfold Cd.d; simp [pln, plnAll, sk "has" (by decide +kernel), hs _ h.1, this], ?_⟩
    have : (Op.tm k).d.depth = k.d.depth := rfl
    show max 0 (max 0 (max k.d.depth 0)) + 1 ≤ 4
    omega
  | neg c => exact h.elim
def Cd.hd : Cd → Str
  | .one h _ => h
  | .two h _ _ => h
  | .has _ _ => "has"
  | .neg _ => "not"
theorem Cd.parts {K : PySem.W.Frag} {H : Hp} {v : V} {c : Cd} (h : Dt K H v c.d) : ∃ a x r, v = .ref a ∧ SqT K H a (.str c.hd :: x :: r) := by
  cases c with
  | one a b => obtain ⟨a, x, y, rfl, hs, e1, e2⟩ := Dt.t2 h; rw [e1.s] at hs; exact ⟨a, _, _, rfl, hs⟩
  | two a b c => obtain ⟨a, x, y, z, rfl, hs, e1, e2, e3⟩ := Dt.t3 h; rw [e1.s] at hs; exact ⟨a, _, _, rfl, hs⟩
  | has a b => obtain ⟨a, x, y, z, rfl, hs, e1, e2, e3⟩ := Dt.t3 h; rw [e1.s] at hs; exact ⟨a, _, _, rfl, hs⟩
  | neg c => obtain ⟨a, x, y, rfl, hs, e1, e2⟩ := Dt.t2 h; rw [e1.s] at hs; exact ⟨a, _, _, rfl, hs⟩
theorem Cd.one_iff {c : Cd} {h w : Str} {ns su : List Str} (p : c.pos ns su) : c.d = .tuple [.str h, .str w] ↔ c = .one h w := by
  cases c with
  | one a b => unfold Cd.d; simp
  | two a b c => unfold Cd.d; simp
  | has a b => unfold Cd.d; simp
  | neg c => exact p.elim
/-- equality with a told condition of one word -/
theorem one_eqv {c : Cd} {h w : Str} {ns su : List Str} (p : c.pos ns su) (hn : ∀ x ∈ ns, SOk x) (hs : ∀ x ∈ su, SOk x) (hh : SOk h) (hw : SOk w) : PyData.eqv c.d (.tuple [.str h, .str w]) = true ↔ c = .one h w := (eqv_pln _ _ (Cd.sh p hn hs).1 (pln2 hh hw)).trans (Cd.one_iff p)
theorem one_eqvF {c : Cd} {h w : Str} {ns su : List Str} (p : c.pos ns su) (hn : ∀ x ∈ ns, SOk x) (hs : ∀ x ∈ su, SOk x) (hh : SOk h) (hw : SOk w) (e : c ≠ .one h w) : PyData.eqv c.d (.tuple [.str h, .str w]) = false := eqv_no (Cd.sh p hn hs).1 (pln2 hh hw) fun z => e ((Cd.one_iff p).mp z)
section
variable {K : PySem.W.Frag} {ns su : List Str} {σ : L2.St} {H : Hp} {R : Bool → Hp → Prop} {v : V} {w : Str} {c : Cd}
theorem srt1 (h1 : σ[1]? = some (some (.str w))) (h2 : σ[2]? = some (some v)) (dv : Dt K H v c.d) (ok : c.pos ns su) (hn : ∀ x ∈ ns, SOk x) (hs : ∀ x ∈ su, SOk x) (hw : SOk w) (q : ∀ H', Same H H' → R (c.isI w) H') :
    tOr (tTest (tOp (PKE.rEqN K 190) (tVar 2) (tTup (tCons (tC (.str "integer")) (tCons (tVar 1) tNil))))) (tAnd (tTest (tOp rEq (tOp (rIxT K) (tVar 2) (tC (.int 0))) (tC (.str "less")))) (tB (tCall (spOcc K) [] C8.E0 (tCons (tVar 2) (tCons (tVar 1) tNil))))) σ H R := by
  have two : ∀ x y : V, [x, y].length ≤ sizeLine := fun x y => small (by show 2 ≤ _; decide)
  have so : SOk "integer" := sk _ (by decide +kernel)
  refine ⟨_, h2, _, h1, two _ _, fun t ht => ⟨_, _, (dv.new ht).dp _ _, (Dt.mk2 ht (.str _) (.str _)).dp _ _, pln_lay _ (Cd.sh ok hn hs).1, pln_lay _ (pln2 so hw), .inr (by show max 0 (max 0 0) + 1 ≤ 190; decide), _, rfl, ?_⟩⟩
  have s1 : Same H (upd H t (.tup [.str "integer", .str w])) := same_new ht
  by_cases e : c = .one "integer" w
  · rw [(one_eqv ok hn hs so hw).mpr e]
    have := q _ s1
    rw [e] at this
    simp only [Cd.isI, decide_true, Bool.and_self] at this
    exact iteT this
  rw [one_eqvF ok hn hs so hw e]
  refine iteF ?_
  obtain ⟨a, x, r, rfl, hsq⟩ := Cd.parts (dv.same s1)
  refine vTx (v := .str c.hd) h2 hsq (atI_nat (j := 0) rfl) ⟨rfl, _, rfl, ?_⟩
  by_cases e2 : c.hd = ("less" : Str)
  · refine sT e2 ?_
    cases c with
    | two a' b c =>
      have : a' = ("less" : Str) := e2
      subst this
      refine ⟨_, h2, _, h1, _, _, w, b, c, ns, su, rfl, dv.same s1, ok.2.1, ok.2.2, hn, hs, hw, fun H3 s3 => ⟨_, rfl, ?_⟩⟩
      have := q _ (s1.trans s3)
      simp only [Cd.isI, decide_true, Bool.true_and] at this
      exact this
    | one a' b => exact absurd ok.1 (by rw [show a' = ("less" : Str) from e2]; decide +kernel)
    | has _ _ => exact absurd e2 (by show ¬ ("has" : Str) = "less"; decide +kernel)
    | neg _ => exact ok.elim
  · refine sF e2 ?_
    have := q _ s1
    have z : c.isI w = false := by
      cases c with
      | one h x => simp only [Cd.isI]; rw [Bool.and_eq_false_iff]; by_cases y : h = ("integer" : Str)
                   · exact .inr (decide_eq_false fun y2 => e (by rw [y, y2]))
                   · exact .inl (decide_eq_false y)
      | two h a b => simp only [Cd.isI]; rw [decide_eq_false (show ¬ h = ("less" : Str) from e2)]; rfl
      | _ => rfl
    rw [z] at this
    exact this
theorem srt2 (h1 : σ[1]? = some (some (.str w))) (h2 : σ[2]? = some (some v)) (dv : Dt K H v c.d) (ok : c.pos ns su) (hn : ∀ x ∈ ns, SOk x) (hs : ∀ x ∈ su, SOk x) (hw : SOk w) (q : ∀ H', Same H H' → R (c.isN w) H') :
    tOr (tTest (tOp (PKE.rEqN K 190) (tVar 2) (tTup (tCons (tC (.str "name")) (tCons (tVar 1) tNil))))) (tAnd (tTest (tOp rEq (tOp (rIxT K) (tVar 2) (tC (.int 0))) (tC (.str "has")))) (tTest (tOp (PKE.rEqN K 190) (tOp (rIxT K) (tVar 2) (tC (.int 2))) (tTup (tCons (tC (.str "meta")) (tCons (tVar 1) tNil)))))) σ H R := by
  have two : ∀ x y : V, [x, y].length ≤ sizeLine := fun x y => small (by show 2 ≤ _; decide)
  have so : SOk "name" := sk _ (by decide +kernel)
  have sm : SOk "meta" := sk _ (by decide +kernel)
  refine ⟨_, h2, _, h1, two _ _, fun t ht => ⟨_, _, (dv.new ht).dp _ _, (Dt.mk2 ht (.str _) (.str _)).dp _ _, pln_lay _ (Cd.sh ok hn hs).1, pln_lay _ (pln2 so hw), .inr (by show max 0 (max 0 0) + 1 ≤ 190; decide), _, rfl, ?_⟩⟩
  have s1 : Same H (upd H t (.tup [.str "name", .str w])) := same_new ht
  by_cases e : c = .one "name" w
  · rw [(one_eqv ok hn hs so hw).mpr e]
    have := q _ s1
    rw [e] at this
    simp only [Cd.isN, decide_true, Bool.and_self] at this
    exact iteT this
  rw [one_eqvF ok hn hs so hw e]
  refine iteF ?_
  obtain ⟨a, x, r, rfl, hsq⟩ := Cd.parts (dv.same s1)
  refine vTx (v := .str c.hd) h2 hsq (atI_nat (j := 0) rfl) ⟨rfl, _, rfl, ?_⟩
  by_cases e2 : c.hd = ("has" : Str)
  · refine sT e2 ?_
    cases c with
    | has b k =>
      obtain ⟨a2, x0, x1, x2, ea, hs2, d0, d1, d2⟩ := Dt.t3 (dv.same s1)
      cases ea
      have pk : pln (Op.tm k).d = true := Op.pln_ok (key_ok ok.2) hn hs
      refine vTx (v := x2) h2 hs2 rfl ⟨_, h1, two _ _, fun t3 ht3 => ⟨k.d, _, (d2.new ht3).dp _ _, (Dt.mk2 ht3 (.str _) (.str _)).dp _ _, pln_lay _ pk, pln_lay _ (pln2 sm hw), .inr (by show max 0 (max 0 0) + 1 ≤ 190; decide), _, rfl, ?_⟩⟩
      have := q _ (s1.trans (same_new (o := .tup [.str "meta", .str w]) ht3))
      have z : PyData.eqv k.d (.tuple [.str "meta", .str w]) = (Cd.has b k).isN w := by
        by_cases y : (Op.tm k) = .tm (.var w)
        · have y2 : k = .var w := by simpa using y
          rw [show PyData.eqv k.d (.tuple [.str "meta", .str w]) = true from (eqv_pln _ _ pk (pln2 sm hw)).mpr ((Op.meta (key_ok ok.2)).mpr y), y2]
          simp only [Cd.isN, decide_true]
        · rw [show PyData.eqv k.d (.tuple [.str "meta", .str w]) = false from eqv_no pk (pln2 sm hw) fun z => y ((Op.meta (key_ok ok.2)).mp z)]
          rcases ok.2 with ⟨s, m, rfl⟩ | ⟨s, m, rfl⟩
          · rfl
          · simp only [Cd.isN]; rw [decide_eq_false fun z => y (by rw [z])]
      rw [z]
      exact this
    | one a' b => exact absurd ok.1 (by rw [show a' = ("has" : Str) from e2]; decide +kernel)
    | two a' _ _ => exact absurd ok.1 (by rw [show a' = ("has" : Str) from e2]; decide +kernel)
    | neg _ => exact ok.elim
  · refine sF e2 ?_
    have := q _ s1
    have z : c.isN w = false := by
      cases c with
      | one h x => simp only [Cd.isN]; rw [Bool.and_eq_false_iff]; by_cases y : h = ("name" : Str)
                   · exact .inr (decide_eq_false fun y2 => e (by rw [y, y2]))
                   · exact .inl (decide_eq_false y)
      | has _ _ => exact absurd rfl e2
      | _ => rfl
    rw [z] at this
    exact this
theorem srt3 (h1 : σ[1]? = some (some (.str w))) (h2 : σ[2]? = some (some v)) (dv : Dt K H v c.d) (ok : c.pos ns su) (q : ∀ H', Same H H' → R (c.isM w) H') :
    tAnd (tTest (tOp (rIn K false) (tOp (rIxT K) (tVar 2) (tC (.int 0))) (tTup (tCons (tC (.str "map")) (tCons (tC (.str "has")) tNil))))) (tTest (tOp rEq (tOp (rIxT K) (tVar 2) (tC (.int 1))) (tVar 1))) σ H R := by
  have two : ∀ x y : V, [x, y].length ≤ sizeLine := fun x y => small (by show 2 ≤ _; decide)
  obtain ⟨a, x, r, rfl, hsq⟩ := Cd.parts dv
  refine vTx (v := .str c.hd) h2 hsq (atI_nat (j := 0) rfl) ⟨two _ _, fun t ht => ⟨t, _, rfl, .inr (SqT.of upd_same), rfl, rfl, _, rfl, ?_⟩⟩
  have s1 : Same H (upd H t (.tup [.str "map", .str "has"])) := same_new ht
  have ei : (if false = true then !inV (.str c.hd) [.str "map", .str "has"] else inV (.str c.hd) [.str "map", .str "has"]) = decide (c.hd ∈ (["map", "has"] : List Str)) := by
    show inV (.str c.hd) ((["map", "has"] : List Str).map V.str) = _
    rw [inV_str]
  rw [ei]
  by_cases e2 : c.hd ∈ (["map", "has"] : List Str)
  · rw [decide_eq_true e2]
    refine iteT ?_
    cases c with
    | one h y =>
      obtain ⟨a2, x0, x1, ea, hs2, d0, d1⟩ := Dt.t2 dv
      cases ea
      rw [d0.s, d1.s] at hs2
      refine vTx (v := .str y) h2 (Same.seqT s1 hs2) rfl ⟨_, h1, rfl, _, rfl, ?_⟩
      have hm : h = ("map" : Str) := by
        rcases List.mem_cons.mp e2 with z | z
        · exact z
        · exact absurd ok.1 (by rw [show h = ("has" : Str) from List.mem_singleton.mp z]; decide +kernel)
      have := q _ s1
      subst hm
      simp only [Cd.isM, decide_true, Bool.true_and] at this
      have e4 : decide (V.str y = V.str w) = decide (y = w) := by
        by_cases z : y = w
        · rw [z]; simp
        · rw [decide_eq_false z, decide_eq_false fun z2 => z (V.str.inj z2)]
      rw [e4]; exact this
    | has y k =>
      obtain ⟨a2, x0, x1, x2, ea, hs2, d0, d1, d2⟩ := Dt.t3 dv
      cases ea
      rw [d0.s, d1.s] at hs2
      refine vTx (v := .str y) h2 (Same.seqT s1 hs2) rfl ⟨_, h1, rfl, _, rfl, ?_⟩
      have := q _ s1
      simp only [Cd.isM] at this
      have e4 : decide (V.str y = V.str w) = decide (y = w) := by
        by_cases z : y = w
        · rw [z]; simp
        · rw [decide_eq_false z, decide_eq_false fun z2 => z (V.str.inj z2)]
      rw [e4]; exact this
    | two h _ _ => exact absurd e2 (by
        have : ∀ h ∈ (["equal", "less"] : List Str), ¬ h ∈ (["map", "has"] : List Str) := by decide +kernel
        exact this h ok.1)
    | neg _ => exact ok.elim
  · rw [decide_eq_false e2]
    refine iteF ?_
    have := q _ s1
    have z : c.isM w = false := by
      cases c with
      | one h x => simp only [Cd.isM]; rw [decide_eq_false (fun y : h = ("map" : Str) => e2 (by rw [show (Cd.one h x).hd = h from rfl, y]; exact List.mem_cons_self))]; rfl
      | has _ _ => exact absurd (List.mem_cons_of_mem _ List.mem_cons_self) e2
      | _ => rfl
    rw [z] at this
    exact this
end
end PK
namespace PK
open PySem L2
/-- the box with its conditions, the words' sorts -/
structure Bx2 (K : PySem.W.Frag) (H : Hp) (l c : Addr) (A : BxA) (cs : List Con) (ns fr wo su : List Str) (ds : List Cd) (pc : Addr) : Prop extends Bx K H l c A cs ns fr wo su where
  hc : ∃ kvs, H A.bx = some (.dK kvs) ∧ valV kvs (.inr "conditions") = some (.ref pc)
  dc : Dt K H (.ref pc) (.tuple (ds.map Cd.d))
structure CdsOk (ns su : List Str) (ds : List Cd) : Prop where
  ok : ∀ d ∈ ds, d.Ok ns su
  le : ds.length ≤ 3
theorem told_pos {ns su : List Str} {ds : List Cd} (h : ∀ d ∈ ds, d.Ok ns su) : ∀ c ∈ told ds, c.pos ns su := fun c hc => by
  obtain ⟨m, p⟩ := List.mem_filter.mp hc
  have := h c m
  cases c <;> first | exact this | cases p
def spSort (K : PySem.W.Frag) : Sp := fun vs H Q _ => ∃ (l c : Addr) (A : BxA) (cs : List Con) (ns fr wo su : List Str) (ds : List Cd) (pc : Addr) (w : Str), vs = [.ref A.bx, .str w] ∧ Bx2 K H l c A cs ns fr wo su ds pc ∧ CdsOk ns su ds ∧ (∀ x ∈ su, Wd x) ∧ Wd w ∧ su.length ≤ 1000 ∧ ∀ H', Same H H' → Q (.str (sortOf ds su w)) H'
theorem DtAll.shaped_lst {ds : List Cd} {ns su : List Str} (p : ∀ c ∈ ds, c.pos ns su) (hn : ∀ x ∈ ns, SOk x) (hs : ∀ x ∈ su, SOk x) : SeqAt.shaped (.list (ds.map Cd.d)) = true := by
  unfold SeqAt.shaped
  have h1 : PyData.canLayAll0 (ds.map Cd.d) = true ∧ PyData.depthAll (ds.map Cd.d) ≤ 4 := by
    induction ds with
    | nil => exact ⟨by rw [List.map_nil]; unfold PyData.canLayAll0; rfl, by rw [List.map_nil]; unfold PyData.depthAll; omega⟩
    | cons c r ih =>
      obtain ⟨i1, i2⟩ := ih fun c hc => p c (List.mem_cons_of_mem _ hc)
      have z := Cd.sh (p c List.mem_cons_self) hn hs
      rw [List.map_cons]
      refine ⟨?_, ?_⟩
      · unfold PyData.canLayAll0; rw [pln_lay _ z.1, i1]; rfl
      · unfold PyData.depthAll; have := z.2; omega
  rw [show (PyData.list (ds.map Cd.d)).canLay0 = true by unfold PyData.canLay0; exact h1.1, Bool.true_and, decide_eq_true_iff]
  show PyData.depthAll (ds.map Cd.d) + 1 ≤ 64
  omega
theorem one_shaped {h w : Str} (hh : SOk h) (hw : SOk w) : SeqAt.shaped (.tuple [.str h, .str w]) = true := by
  unfold SeqAt.shaped
  rw [pln_lay _ (pln2 hh hw), Bool.true_and, decide_eq_true_iff]
  show max 0 (max 0 0) + 1 ≤ 64
  decide
section
variable {P : Program} {w : World} {K : PySem.W.Frag} {mg : Str → Option Value} {base : Heap}
abbrev s_law_sort : Stmt := topS 31
theorem sc_law_sort : FnScope ["box", "word", "condition", "told"] ["box", "word"] (defScope s_law_sort) := ⟨rfl, rfl, rfl, by decide +kernel, rfl, by decide +kernel, by decide +kernel⟩
-- slots: 0:box 1:word 2:condition 3:told
abbrev s_law_of_sort : Stmt := topS 32
theorem sc_law_of_sort : FnScope ["box", "sort", "word"] ["box", "sort"] (defScope s_law_of_sort) := ⟨rfl, rfl, rfl, by decide +kernel, rfl, by decide +kernel, by decide +kernel⟩
-- slots: 0:box(cell) 1:sort(cell) 2:word(comp)
theorem ok_sort {f : Addr} {fd : FuncData} (F : Fun K "_law_sort" "_law_sort" s_law_sort f fd) (T : Txt K mg) (C_law_occurs : C8.Cal P w K mg base 1 "_law_occurs" (spOcc K) []) : FnOk P w K mg base CX0 2 f fd ["box", "word"] (spSort K) := by
  refine F.ok sc_law_sort (fun vs H Q E h => ?_) (fun cdv A outer s H vs Q E hr h => ?_)
  · obtain ⟨_, _, _, _, _, _, _, _, _, _, _, rfl, _⟩ := h
    rfl
  obtain ⟨l, c, A, cs, ns, fr, wo, su, ds, pc, wd, rfl, B, CO, hsu, hwd, lsu, q⟩ := h
  refine ⟨_, (pss_cons (ps_setLc (i := 3) (own := [("condition", 2)]) (g := (gName 2)) (by rfl) sc_law_sort.nd rfl rfl (sw_true rfl rfl rfl (by decide +kernel)) (pi_tup (pe_dget (hu_of hr) (pv 0) pe_str (fun _ _ => rfl))) (blkOk_by (N := ["box", "word", "condition", "told"]) (sc := defScope s_law_sort) (by decide +kernel)) (fun _ _ _ _ _ => (pg_name (i := 2) sc_law_sort.nd rfl (Or.inl rfl))) (fun _ _ _ _ _ => pts_one (pt_cmpR op_ne (pe_ix (r := rIxT K) ix_tup (pv 2) pe_int (fun _ _ => rfl)) pe_str (nomark _))) (fun _ _ _ _ _ => (pv 2)))
    (pss_cons (ps_for PassesOwn.never rfl (pi_list (pv 3)) (pg_name (i := 2) sc_law_sort.nd rfl (Or.inl rfl)) (pss_one (ps_if (PW.pt (pw_or (pt_cmpR (PKE.op_eqN (n := 190) (eqU hr)) (pv 2) (pe_tup (pa_cons pe_str (pa_cons (pv 1) pa_nil))) (nomark _)) (pw_or1 (PW.pt (pw_and (pt_cmpR op_eq (pe_ix ix_tup (pv 2) pe_int (fun _ _ => rfl)) pe_str (nomark _)) (pw_and1 (pt_val (C8.pe_c C_law_occurs hr (by decide) rfl (pa_cons (pv 2) (pa_cons (pv 1) pa_nil)))))))))) (pss_one (ps_ret pe_str)) pss_nil)))
    (pss_cons (ps_for PassesOwn.never rfl (pi_list (pv 3)) (pg_name (i := 2) sc_law_sort.nd rfl (Or.inl rfl)) (pss_one (ps_if (PW.pt (pw_or (pt_cmpR (PKE.op_eqN (n := 190) (eqU hr)) (pv 2) (pe_tup (pa_cons pe_str (pa_cons (pv 1) pa_nil))) (nomark _)) (pw_or1 (PW.pt (pw_and (pt_cmpR op_eq (pe_ix ix_tup (pv 2) pe_int (fun _ _ => rfl)) pe_str (nomark _)) (pw_and1 (pt_cmpR (PKE.op_eqN (n := 190) (eqU hr)) (pe_ix ix_tup (pv 2) pe_int (fun _ _ => rfl)) (pe_tup (pa_cons pe_str (pa_cons (pv 1) pa_nil))) (nomark _)))))))) (pss_one (ps_ret pe_str)) pss_nil)))
    (pss_cons (ps_for PassesOwn.never rfl (pi_list (pv 3)) (pg_name (i := 2) sc_law_sort.nd rfl (Or.inl rfl)) (pss_one (ps_if (PW.pt (pw_and (pt_cmpR op_in_seq (pe_ix ix_tup (pv 2) pe_int (fun _ _ => rfl)) (pe_tup (pa_cons pe_str (pa_cons pe_str pa_nil))) rfl) (pw_and1 (pt_cmpR op_eq (pe_ix ix_tup (pv 2) pe_int (fun _ _ => rfl)) (pv 1) (nomark _))))) (pss_one (ps_ret pe_str)) pss_nil)))
    (pss_cons (ps_if (pt_cmpR (L2.op_inD (inU hr)) (pe_tup (pa_cons pe_str (pa_cons (pv 1) pa_nil))) (pv 3) rfl) (pss_one (ps_ret pe_str)) pss_nil)
    (pss_cons (ps_if (pt_cmpR op_in_seq (pv 1) (pe_dget (hu_of hr) (pv 0) pe_str (fun _ _ => rfl)) rfl) (pss_one (ps_ret pe_str)) pss_nil)
    (pss_one (ps_ret pe_str)))))))), ?_⟩
  have hn : ∀ x ∈ ns, SOk x := fun x hx => (B.nm.wd x hx).sok
  have hs : ∀ x ∈ su, SOk x := fun x hx => (hsu x hx).sok
  have hw := hwd.sok
  have two : ∀ x y : V, [x, y].length ≤ sizeLine := fun x y => small (by show 2 ≤ _; decide)
  have tp := told_pos CO.ok
  obtain ⟨kvs, hb, e1⟩ := B.hc
  have gc : DGet H A.bx (.str "conditions") (some (.ref pc)) := by
    have z := DGet.k (k := Sum.inr ("conditions" : Str)) hb
    rw [e1] at z
    exact z
  obtain ⟨pc', cv, epc, hcv, dcv⟩ := Dt.tn B.dc
  cases epc
  have lcv : cv.length = ds.length := by rw [dcv.lenD, List.length_map]
  refine ⟨_, rfl, A.bx, _, rfl, gc, pc, rfl, ⟨_, hcv⟩, fun D hD => lc_it (walk_tup (K := K) (xs := cv)) (fun i H' => Same H H' ∧ ∃ rv', H' D = some (.lst rv') ∧ DtAll K H' rv' ((told (ds.take i)).map Cd.d)) ⟨same_new hD, [], upd_same, by rw [List.take_zero]; exact .nil⟩ (fun i H' _ h => Same.seqT h.1 hcv) ?_ ?_⟩
  · rintro i x H1 H2 hi ⟨s1, rv', h1, d1⟩ ⟨rfl, gx⟩
    obtain ⟨dd, gd, dx⟩ := dcv.getX gx
    rw [List.getElem?_map] at gd
    cases e0 : ds[i]? with
    | none => rw [e0] at gd; cases gd
    | some y =>
    rw [e0] at gd
    cases gd
    obtain ⟨a, x1, r, rfl, hsq⟩ := Cd.parts (dx.same s1)
    have lrv' : rv'.length ≤ i := by
      rw [d1.lenD, List.length_map]
      exact Nat.le_trans (List.length_filter_le _ _) (by rw [List.length_take]; omega)
    have lds := CO.le
    refine ⟨rfl, vTx (v := .str y.hd) rfl hsq (atI_nat (j := 0) rfl) ⟨rfl, _, rfl, ?_⟩⟩
    have et : told (ds.take (i + 1)) = told (ds.take i) ++ told [y] := by unfold told; rw [take_snoc e0, List.filter_append]
    rw [et, List.map_append]
    by_cases e : y.hd = ("not" : Str)
    · have z : told [y] = [] := by
        cases y with
        | neg _ => rfl
        | one h x => exact absurd (CO.ok _ (List.mem_of_getElem? e0)).1 (by rw [show h = ("not" : Str) from e]; decide +kernel)
        | two h _ _ => exact absurd (CO.ok _ (List.mem_of_getElem? e0)).1 (by rw [show h = ("not" : Str) from e]; decide +kernel)
        | has _ _ => exact absurd e (by show ¬ ("has" : Str) = "not"; decide +kernel)
      rw [z, List.map_nil, List.append_nil, decide_eq_true (by rw [e])]
      exact ⟨s1, rv', h1, d1⟩
    · have z : told [y] = [y] := by
        cases y with
        | neg _ => exact absurd rfl e
        | _ => rfl
      rw [z, decide_eq_false fun z2 => e (V.str.inj z2)]
      exact ⟨_, rfl, rv', h1, smallL (by omega), Same.upd s1 hD, _, upd_same, (d1.append (.cons (dx.same s1) .nil)).upd h1⟩
  rintro H1 ⟨s1, rv', h1, d1⟩
  rw [lcv, List.take_length] at d1
  have lds := CO.le
  have ltd : (told ds).length ≤ 3 := Nat.le_trans (List.length_filter_le _ _) CO.le
  have lrv : rv'.length = (told ds).length := by rw [d1.lenD, List.length_map]
  -- one turn of a loop
  have fo : ∀ (p : Cd → Bool) (o : Str) (D2 : Ends) (H2 : Hp) (tt : TT) (o2 : Option V), Same H1 H2 → (∀ (c : Cd) (v : V) (H3 : Hp) (R : Bool → Hp → Prop), Same H1 H3 → c ∈ told ds → Dt K H3 v c.d → (∀ H', Same H3 H' → R (p c) H') → tt [some (.ref A.bx), some (.str wd), some v, some (.ref D)] H3 R) →
      ((told ds).any p = true → ∀ H3, Same H1 H3 → D2.rt (.str o) H3) → ((told ds).any p = false → ∀ H3 o3, Same H1 H3 → D2.nx [some (.ref A.bx), some (.str wd), o3, some (.ref D)] H3) → tFor (iList K (tVar 3)) (gName 2) (tIfS tt (tRet (tC (.str o))) tNext) D2 [some (.ref A.bx), some (.str wd), o2, some (.ref D)] H2 := fun p o D2 H2 tt o2 s2 ht hy hno => by
    refine ⟨_, rfl, D, rfl, ⟨_, SqL.of (s2 _ _ h1)⟩, for_it (walk_list (K := K) (xs := rv')) (fun i σ H' => ∃ o3, σ = [some (.ref A.bx), some (.str wd), o3, some (.ref D)] ∧ Same H1 H' ∧ ((told ds).take i).any p = false) ⟨_, rfl, s2, rfl⟩ (fun i σ H' _ h => SqL.of (by obtain ⟨_, _, h, _⟩ := h; exact h _ _ h1)) ?_ ?_⟩
    · rintro i x σ H3 H4 hi ⟨o3, rfl, s3, en⟩ ⟨rfl, gx⟩
      obtain ⟨dd, gd, dx⟩ := d1.getX gx
      rw [List.getElem?_map] at gd
      cases e0 : (told ds)[i]? with
      | none => rw [e0] at gd; cases gd
      | some y =>
      rw [e0] at gd
      cases gd
      have my := List.mem_of_getElem? e0
      refine ht y x H4 _ s3 my (dx.same s3) fun H5 s5 => ?_
      cases ep : p y with
      | true => exact iteT (hy (List.any_eq_true.mpr ⟨y, my, ep⟩) H5 (s3.trans s5))
      | false => exact iteF ⟨_, rfl, s3.trans s5, by rw [take_snoc e0, List.any_append, en]; simp [ep]⟩
    · rintro σ H3 ⟨o3, rfl, s3, en⟩
      rw [lrv, List.take_length] at en
      exact hno en H3 o3 s3
  refine fo (Cd.isI wd) "integer" _ H1 _ _ (Same.refl H1) (fun c v H3 R s3 mc dv r => srt1 rfl rfl dv (tp c mc) hn hs hw r) (fun e H3 s3 => ?_) fun e1 H2 o2 s2 => ?_
  · have := q H3 (s1.trans s3)
    unfold sortOf at this
    rw [if_pos e] at this
    exact this
  refine fo (Cd.isN wd) "name" _ H2 _ _ s2 (fun c v H3 R s3 mc dv r => srt2 rfl rfl dv (tp c mc) hn hs hw r) (fun e H3 s3 => ?_) fun e2 H3 o3 s3 => ?_
  · have := q H3 (s1.trans s3)
    unfold sortOf at this
    rw [if_neg (by rw [e1]; decide), if_pos e] at this
    exact this
  refine fo (Cd.isM wd) "map" _ H3 _ _ s3 (fun c v H3 R s3 mc dv r => srt3 rfl rfl dv (tp c mc) r) (fun e H3 s3 => ?_) fun e3 H4 o4 s4 => ?_
  · have := q H3 (s1.trans s3)
    unfold sortOf at this
    rw [if_neg (by rw [e1]; decide), if_neg (by rw [e2]; decide), if_pos e] at this
    exact this
  refine ⟨_, rfl, two _ _, fun t ht => ⟨_, rfl, .tuple [.str "address", .str wd], (told ds).map Cd.d, (Dt.mk2 ht (.str _) (.str _)).dp _ _, ?_, one_shaped (sk _ (by decide +kernel)) hw, DtAll.shaped_lst tp hn hs, _, rfl, ?_⟩⟩
  · exact .lst (SqL.of ((same_new ht) _ _ (s4 _ _ h1))) (DtAll.dp _ _ (d1.same (s4.trans (same_new ht))))
  have s5 : Same H1 (upd H4 t (.tup [.str "address", .str wd])) := s4.trans (same_new ht)
  have ea : (((told ds).map Cd.d).any fun z => PyData.eqv z (.tuple [.str "address", .str wd])) = (told ds).any (Cd.isA wd) := by
    rw [List.any_map]
    have : ∀ l : List Cd, (∀ c ∈ l, c.pos ns su) → (l.any fun c => PyData.eqv c.d (.tuple [.str "address", .str wd])) = l.any (Cd.isA wd) := fun l => by
      induction l with
      | nil => exact fun _ => rfl
      | cons c r ih =>
        intro hp
        have pc := hp c List.mem_cons_self
        rw [List.any_cons, List.any_cons, ih fun x hx => hp x (List.mem_cons_of_mem _ hx)]
        congr 1
        by_cases e : c = .one "address" wd
        · rw [(one_eqv pc hn hs (sk _ (by decide +kernel)) hw).mpr e, e]; simp only [Cd.isA, decide_true, Bool.and_self]
        · rw [one_eqvF pc hn hs (sk _ (by decide +kernel)) hw e]
          cases c with
          | one h x =>
            simp only [Cd.isA]
            by_cases y : h = ("address" : Str)
            · rw [decide_eq_false fun y2 : x = wd => e (by rw [y, y2])]; simp
            · rw [decide_eq_false y]; rfl
          | _ => rfl
    exact this _ tp
  rw [ea]
  cases e4 : (told ds).any (Cd.isA wd) with
  | true =>
    have := q _ (s1.trans s5)
    unfold sortOf at this
    rw [if_neg (by rw [e1]; decide), if_neg (by rw [e2]; decide), if_neg (by rw [e3]; decide), if_pos e4] at this
    exact iteT this
  | false =>
    refine iteF ?_
    have sA := s1.trans s5
    have hS := sA _ _ B.hs
    have B' := B.toBx.same sA
    refine ⟨_, rfl, _, rfl, A.bx, _, rfl, B'.g.2.2.2.2, A.su, _, rfl, .inl (SqL.of hS), rfl, flat_strs _, _, rfl, ?_⟩
    have := q _ sA
    unfold sortOf at this
    rw [if_neg (by rw [e1]; decide), if_neg (by rw [e2]; decide), if_neg (by rw [e3]; decide), if_neg (by rw [e4]; decide)] at this
    rw [inV_str]
    by_cases m : wd ∈ su
    · rw [if_pos m] at this
      have z : (if false = true then !decide (wd ∈ su) else decide (wd ∈ su)) = true := decide_eq_true m
      rw [z]; exact iteT this
    · rw [if_neg m] at this
      have z : (if false = true then !decide (wd ∈ su) else decide (wd ∈ su)) = false := decide_eq_false m
      rw [z]; exact iteF this
def spOfs (K : PySem.W.Frag) : Sp := fun vs H Q _ => ∃ (l c : Addr) (A : BxA) (cs : List Con) (ns fr wo su : List Str) (so : Str → Str) (s : Str) (ps : Addr), vs = [.ref A.bx, .str s] ∧ Bx K H l c A cs ns fr wo su ∧ (∃ kvs, H A.bx = some (.dK kvs) ∧ valV kvs (.inr "sorts") = some (.ref ps)) ∧ (∃ kvs, H ps = some (.dK kvs) ∧ ∀ w ∈ wo, valV kvs (.inr w) = some (.str (so w))) ∧ wo.length ≤ 1000 ∧
  ∀ (H' : Hp) (p : Addr), Same H H' → H p = none → H' p = some (.lst ((wo.filter fun w => decide (so w = s)).map V.str)) → Q (.ref p) H'
theorem ok_ofsort {f : Addr} {fd : FuncData} (F : Fun K "_law_of_sort" "_law_of_sort" s_law_of_sort f fd) (T : Txt K mg) : FnOk P w K mg base CX0 1 f fd ["box", "sort"] (spOfs K) := by
  refine F.ok sc_law_of_sort (fun vs H Q E h => ?_) (fun cdv A outer s H vs Q E hr h => ?_)
  · obtain ⟨_, _, _, _, _, _, _, _, _, _, _, rfl, _⟩ := h
    rfl
  obtain ⟨l, c, A, cs, ns, fr, wo, su, so, st, ps, rfl, B, ⟨kvs, hb, e1⟩, ⟨kv2, hb2, e2⟩, lwo, q⟩ := h
  refine ⟨_, (pss_one (ps_ret (pe_lc (own := [("word", 2)]) (g := (gName 2)) (by rfl) sc_law_of_sort.nd (pi_list (pe_dget (hu_of hr) (pv 0) pe_str (fun _ _ => rfl))) (blkOk_by (N := ["box", "sort", "word"]) (sc := defScope s_law_of_sort) (by decide +kernel)) (fun _ _ _ _ _ => (pg_name (i := 2) sc_law_of_sort.nd rfl (Or.inl rfl))) (fun _ _ _ _ _ => pts_one (pt_cmpR op_eq (pe_dget (hu_of hr) (pe_dget (hu_of hr) (pv 0) pe_str (fun _ _ => rfl)) (pv 2) (fun _ _ => rfl)) (pv 1) (nomark _))) (fun _ _ _ _ _ => (pv 2))))), ?_⟩
  have gS : ∀ H', Same H H' → DGet H' A.bx (.str "sorts") (some (.ref ps)) := fun H' s => by
    have z := DGet.k (k := Sum.inr ("sorts" : Str)) (s _ _ hb)
    rw [e1] at z
    exact z
  refine ⟨_, rfl, A.bx, _, rfl, B.g.2.2.2.1, A.aw, rfl, ⟨_, SqL.of B.hw⟩, fun D hD => lc_it (walk_list (K := K) (xs := wo.map V.str)) (fun i H' => Same H H' ∧ H' D = some (.lst (((wo.take i).filter fun w => decide (so w = st)).map V.str))) ⟨same_new hD, by rw [List.take_zero]; exact upd_same⟩ (fun i H' _ h => SqL.of (h.1 _ _ B.hw)) ?_ ?_⟩
  · rintro i x H1 H2 hi ⟨s1, h1⟩ ⟨rfl, gx⟩
    rw [List.getElem?_map] at gx
    cases e0 : wo[i]? with
    | none => rw [e0] at gx; cases gx
    | some y =>
    rw [e0] at gx
    cases gx
    have g2 : DGet H2 ps (.str y) (some (.str (so y))) := by
      have z := DGet.k (k := Sum.inr y) (s1 _ _ hb2)
      rw [e2 y (List.mem_of_getElem? e0)] at z
      exact z
    refine ⟨rfl, _, rfl, A.bx, _, rfl, gS _ s1, _, rfl, ps, _, rfl, g2, _, rfl, rfl, _, rfl, ?_⟩
    rw [take_snoc e0, List.filter_append]
    have ll : (((wo.take i).filter fun w => decide (so w = st)).map V.str).length < sizeLine := smallL (by
      rw [List.length_map]
      have h1 := List.length_filter_le (fun w => decide (so w = st)) (wo.take i)
      have h2 := List.length_take_le' i wo
      omega)
    by_cases e : so y = st
    · rw [List.filter_cons_of_pos (by exact decide_eq_true e), List.filter_nil, List.map_append]
      exact sT e ⟨_, rfl, _, h1, ll, Same.upd s1 hD, upd_same⟩
    · rw [List.filter_cons_of_neg (by exact fun z => e (of_decide_eq_true z)), List.filter_nil, List.append_nil]
      exact sF e ⟨s1, h1⟩
  rintro H1 ⟨s1, h1⟩
  rw [List.length_map, List.take_length] at h1
  exact q H1 D s1 hD h1
end
end PK
namespace PK
open PySem L2
/-! drawn forms -/
inductive FK where
  | int | map | set | worth | form
/-- what forms are drawn over -/
structure FE where
  cs : List Con
  ns : List Str
  wo : List Str
  so : Str → Str
  ds : List Cd
inductive Fo (e : FE) : FK → Tm → Prop
  | ivar {w : Str} : w ∈ e.wo → e.so w = ("integer" : Str) → Fo e .int (.var w)
  | ilit {n : Int} : -(10 ^ 15) < n → n < 10 ^ 15 → Fo e .int (.int n)
  | iop {f : Fm} {a b : Tm} : f = .plus ∨ f = .minus → Fo e .int a → Fo e .int b → Fo e .int (.form f [a, b])
  | mvar {w : Str} : w ∈ e.wo → e.so w = ("map" : Str) → Fo e .map (.var w)
  | mlit {es : List (Str × Tm)} : (es.map Prod.fst).Nodup → (∀ x ∈ es, x.1 ∈ e.ns) → (∀ x ∈ es, Fo e .worth x.2) → Fo e .map (.map es)
  | set {m k v : Tm} : Fo e .map m → ((∃ s ∈ e.ns, k = .name s) ∨ ∃ w ∈ e.wo, e.so w = ("name" : Str) ∧ k = .var w) → Fo e .worth v → Fo e .set (.form .set [m, k, v])
  | wvar {w : Str} : w ∈ e.wo → e.so w ≠ ("any" : Str) → Fo e .worth (.var w)
  | wint {t : Tm} : Fo e .int t → Fo e .worth t
  | wget {x : Str} {k : Tm} : Cd.has x k ∈ e.ds → Fo e .worth (.form .get [.var x, k])
  | wset {t : Tm} : Fo e .set t → Fo e .worth t
  | watom {t : Tm} : atB e.ns t → Fo e .worth t
  | wnode {y : Con} {ts : List Tm} : y ∈ e.cs → y.kd = ("value" : Str) → ts.length = y.ar → (∀ (i : Nat) (k : Tm), ts[i]? = some k → ((i : Int) ∈ y.pl → Fo e .worth k)) → (∀ (i : Nat) (k : Tm), ts[i]? = some k → ((i : Int) ∉ y.pl → Fo e .form k)) → Fo e .worth (.node y.nm ts)
  | fnode {y : Con} {ts : List Tm} : y ∈ e.cs → ts.length = y.ar → (∀ (i : Nat) (k : Tm), ts[i]? = some k → ((i : Int) ∈ y.pl ∧ y.kd = ("value" : Str) → Fo e .worth k)) → (∀ (i : Nat) (k : Tm), ts[i]? = some k → (¬ ((i : Int) ∈ y.pl ∧ y.kd = ("value" : Str)) → Fo e .form k)) → Fo e .form (.node y.nm ts)
  | fvar {w : Str} : w ∈ e.wo → Fo e .form (.var w)
  | fworth {t : Tm} : Fo e .worth t → Fo e .form t
structure Bx3 (K : PySem.W.Frag) (H : Hp) (l c : Addr) (A : BxA) (e : FE) (fr su : List Str) (pc ps : Addr) : Prop where
  b : Bx2 K H l c A e.cs e.ns fr e.wo su e.ds pc
  nps : ps ≠ l
  hso : ∃ kvs, H A.bx = some (.dK kvs) ∧ valV kvs (.inr "sorts") = some (.ref ps)
  hps : ∃ kvs, H ps = some (.dK kvs) ∧ ∀ w ∈ e.wo, valV kvs (.inr w) = some (.str (e.so w))
  nbx : ps ≠ A.bx
  hpl : ∀ kvs, H ps = some (.dK kvs) → kvs.length ≤ e.wo.length
theorem Bx3.ext {K : PySem.W.Frag} {H H' : Hp} {l c : Addr} {A : BxA} {e : FE} {fr su : List Str} {pc ps : Addr} (B : Bx3 K H l c A e fr su pc ps) (P : Pool H l c) (x : Ext l c H H') : Bx3 K H' l c A e fr su pc ps := by
  obtain ⟨kv1, h1, e1⟩ := B.b.hc
  obtain ⟨kv2, h2, e2⟩ := B.hso
  obtain ⟨kv3, h3, e3⟩ := B.hps
  have nb : A.bx ≠ l := fun z => by
    obtain ⟨ns, i, r, s, hl, _⟩ := P
    rw [z, hl] at h1; cases h1
  exact ⟨⟨B.b.toBx.ext P x, ⟨kv1, x.keep _ _ nb h1, e1⟩, B.b.dc.ext P x⟩, B.nps, ⟨kv2, x.keep _ _ nb h2, e2⟩, ⟨kv3, x.keep _ _ B.nps h3, e3⟩, B.nbx, fun kvs hk => by rw [x.keep _ _ B.nps h3] at hk; cases hk; exact B.hpl _ h3⟩
theorem Bx3.g {K : PySem.W.Frag} {H : Hp} {l c : Addr} {A : BxA} {e : FE} {fr su : List Str} {pc ps : Addr} (B : Bx3 K H l c A e fr su pc ps) : DGet H A.bx (.str "conditions") (some (.ref pc)) ∧ DGet H A.bx (.str "sorts") (some (.ref ps)) ∧ ∀ w ∈ e.wo, DGet H ps (.str w) (some (.str (e.so w))) := by
  obtain ⟨kv1, h1, e1⟩ := B.b.hc
  obtain ⟨kv2, h2, e2⟩ := B.hso
  obtain ⟨kv3, h3, e3⟩ := B.hps
  refine ⟨?_, ?_, fun w hw => ?_⟩
  · have z := DGet.k (k := Sum.inr ("conditions" : Str)) h1; rw [e1] at z; exact z
  · have z := DGet.k (k := Sum.inr ("sorts" : Str)) h2; rw [e2] at z; exact z
  · have z := DGet.k (k := Sum.inr w) h3; rw [e3 w hw] at z; exact z
structure FEo (e : FE) (su : List Str) : Prop where
  ck : CsOk e.cs
  lw : e.wo.length ≤ 1000
  nd : e.ns.Nodup
  cd : CdsOk e.ns su e.ds
  sub : ∀ x ∈ su, x ∈ e.wo
/-- a form of a kind is drawn -/
def spFo (k : FK) (lo : Nat) (K : PySem.W.Frag) (n : Nat) : Sp := fun vs H Q _ => ∃ (l c : Addr) (A : BxA) (e : FE) (fr su : List Str) (pc ps : Addr) (d : Nat), vs = [.ref l, .ref A.bx, .int (d : Nat)] ∧ Pool H l c ∧ Bx3 K H l c A e fr su pc ps ∧ FEo e su ∧ lo ≤ d ∧ d < n ∧
  ∀ (H' : Hp) (v : V) (t : Tm), Ext l c H H' → Dt K H' v t.d → Fo e k t → t.ht ≤ d + 2 → Q v H'
def spNd (K : PySem.W.Frag) (n : Nat) : Sp := fun vs H Q _ => ∃ (l c : Addr) (A : BxA) (e : FE) (fr su : List Str) (pc ps : Addr) (d : Nat) (rv : V) (y : Con), vs = [.ref l, .ref A.bx, rv, .int (d : Nat)] ∧ Pool H l c ∧ Bx3 K H l c A e fr su pc ps ∧ FEo e su ∧ Dt K H rv y.d ∧ y ∈ e.cs ∧ 1 ≤ d ∧ d < n ∧
  ∀ (H' : Hp) (v : V) (ts : List Tm), Ext l c H H' → Dt K H' v (Tm.node y.nm ts).d → ts.length = y.ar → (∀ (i : Nat) (k : Tm), ts[i]? = some k → ((i : Int) ∈ y.pl ∧ y.kd = ("value" : Str) → Fo e .worth k) ∧ (¬ ((i : Int) ∈ y.pl ∧ y.kd = ("value" : Str)) → Fo e .form k)) → (Tm.node y.nm ts).ht ≤ d + 2 → Q v H'
theorem pickF {K : PySem.W.Frag} {H : Hp} {l c p : Addr} {wo : List Str} {f : Str → Bool} {Q : VK} {E : XK} (P0 : Pool H l c) (np : p ≠ l) (hp : H p = some (.lst ((wo.filter f).map V.str))) (ne : wo.filter f ≠ []) (le : wo.length ≤ 1000) (q : ∀ (H' : Hp) (x : Str), Ext l c H H' → x ∈ wo → f x = true → Q (.str x) H') : spPick K [.ref l, .ref p] H Q E := by
  refine ⟨l, c, p, _, rfl, P0, np, hp, fun z => ne (List.map_eq_nil_iff.mp z), by rw [List.length_map]; exact Nat.le_trans (List.length_filter_le _ _) le, fun H' i x x1 gx => ?_⟩
  rw [List.getElem?_map] at gx
  cases e : (wo.filter f)[i]? with
  | none => rw [e] at gx; cases gx
  | some s =>
    rw [e] at gx
    cases gx
    have := List.mem_filter.mp (List.mem_of_getElem? e)
    exact q H' s x1 this.1 this.2
theorem dt_var {K : PySem.W.Frag} {H : Hp} {t : Addr} {x : Str} (ht : H t = none) : Dt K (upd H t (.tup [.str "meta", .str x])) (.ref t) (Tm.var x).d := by unfold Tm.d; exact Dt.mk2 ht (.str _) (.str _)
theorem ht_var {x : Str} : (Tm.var x).ht ≤ 1 := Tm.ht_le (n := 0) fun k hk => by cases hk
theorem isEmpty_mapS (xs : List Str) : (!(xs.map V.str).isEmpty) = decide (xs ≠ []) := by cases xs <;> simp
section
variable {P : Program} {w : World} {K : PySem.W.Frag} {mg : Str → Option Value} {base : Heap}
abbrev s_law_integer : Stmt := topS 33
theorem sc_law_integer : FnScope ["pool", "box", "depth", "words", "kind", "left"] ["pool", "box", "depth"] (defScope s_law_integer) := ⟨rfl, rfl, rfl, by decide +kernel, rfl, by decide +kernel, by decide +kernel⟩
-- slots: 0:pool 1:box 2:depth 3:words 4:kind 5:left
abbrev s_law_map : Stmt := topS 34
theorem sc_law_map : FnScope ["pool", "box", "depth", "words", "entries", "name"] ["pool", "box", "depth"] (defScope s_law_map) := ⟨rfl, rfl, rfl, by decide +kernel, rfl, by decide +kernel, by decide +kernel⟩
-- slots: 0:pool 1:box 2:depth 3:words 4:entries 5:name
abbrev s_law_set : Stmt := topS 35
theorem sc_law_set : FnScope ["pool", "box", "depth", "words", "key", "mapping"] ["pool", "box", "depth"] (defScope s_law_set) := ⟨rfl, rfl, rfl, by decide +kernel, rfl, by decide +kernel, by decide +kernel⟩
-- slots: 0:pool 1:box 2:depth 3:words 4:key 5:mapping
abbrev s_law_worth : Stmt := topS 36
theorem sc_law_worth : FnScope ["pool", "box", "depth", "kind", "words", "condition", "gets", "row", "word"] ["pool", "box", "depth"] (defScope s_law_worth) := ⟨rfl, rfl, rfl, by decide +kernel, rfl, by decide +kernel, by decide +kernel⟩
-- slots: 0:pool 1:box(cell) 2:depth 3:kind 4:words 5:condition 6:gets 7:row 8:word(comp)
abbrev s_law_node : Stmt := topS 37
theorem sc_law_node : FnScope ["pool", "box", "row", "depth", "parts", "place"] ["pool", "box", "row", "depth"] (defScope s_law_node) := ⟨rfl, rfl, rfl, by decide +kernel, rfl, by decide +kernel, by decide +kernel⟩
-- slots: 0:pool 1:box 2:row 3:depth 4:parts 5:place
abbrev s_law_form : Stmt := topS 38
theorem sc_law_form : FnScope ["pool", "box", "depth", "kind"] ["pool", "box", "depth"] (defScope s_law_form) := ⟨rfl, rfl, rfl, by decide +kernel, rfl, by decide +kernel, by decide +kernel⟩
-- slots: 0:pool 1:box 2:depth 3:kind
theorem ok_integer {n : Nat} {f : Addr} {fd : FuncData} (F : Fun K "_law_integer" "_law_integer" s_law_integer f fd) (T : Txt K mg) (C_law_take : C8.Cal P w K mg base 2 "_law_take" (spTake 2) []) (C_law_of_sort : C8.Cal P w K mg base 1 "_law_of_sort" (spOfs K) []) (C_law_pick : C8.Cal P w K mg base 3 "_law_pick" (spPick K) []) (C_law_number : C8.Cal P w K mg base 3 "_law_number" spNum [])
    (C_law_integer : C8.Cal P w K mg base (n + 4) "_law_integer" (spFo .int 0 K n) []) : FnOk P w K mg base CX0 (n + 5) f fd ["pool", "box", "depth"] (spFo .int 0 K (n + 1)) := by
  refine F.ok sc_law_integer (fun vs H Q E h => ?_) (fun cdv A outer s H vs Q E hr h => ?_)
  · obtain ⟨_, _, _, _, _, _, _, _, _, rfl, _⟩ := h
    rfl
  obtain ⟨l, c, A, e, fr, su, pc, ps, d, rfl, P0, B, O, d0, hd, q⟩ := h
  refine ⟨_, (pss_cons (ps_set (i := 3) sc_law_integer.nd rfl (Or.inl rfl) (C8.pe_c C_law_of_sort hr (by omega) rfl (pa_cons (pv 1) (pa_cons pe_str pa_nil))))
    (pss_cons (ps_set (i := 4) sc_law_integer.nd rfl (Or.inl rfl) (C8.pe_c C_law_take hr (by omega) rfl (pa_cons (pv 0) (pa_cons pe_int pa_nil))))
    (C8.pss_cut (ps_if (PW.pt (pw_and (pt_cmpR op_lt (pv 4) pe_int (nomark _)) (pw_and1 (pt_truth (pv 3) (by intro _; rfl))))) (pss_one (ps_ret (pe_tup (pa_cons pe_str (pa_cons (C8.pe_c C_law_pick hr (by omega) rfl (pa_cons (pv 0) (pa_cons (pv 3) pa_nil))) pa_nil))))) pss_nil)
    (C8.pss_cut (ps_if (PW.pt (pw_and (pt_cmpR op_eq (pv 4) pe_int (nomark _)) (pw_and1 (pt_cmpR op_gt (pv 2) pe_int (nomark _))))) (pss_cons (ps_set (i := 5) sc_law_integer.nd rfl (Or.inl rfl) (C8.pe_c C_law_integer hr (by omega) rfl (pa_cons (pv 0) (pa_cons (pv 1) (pa_cons (pe_op op_sub (pv 2) pe_int) pa_nil)))))
    (pss_one (ps_ret (pe_tup (pa_cons (pe_ix ix_tup (pe_tup (pa_cons pe_str (pa_cons pe_str pa_nil))) (C8.pe_c C_law_take hr (by omega) rfl (pa_cons (pv 0) (pa_cons pe_int pa_nil))) (fun _ _ => rfl)) (pa_cons (pv 5) (pa_cons (C8.pe_c C_law_integer hr (by omega) rfl (pa_cons (pv 0) (pa_cons (pv 1) (pa_cons (pe_op op_sub (pv 2) pe_int) pa_nil)))) pa_nil))))))) pss_nil)
    (pss_one (ps_ret (pe_tup (pa_cons pe_str (pa_cons (C8.pe_c C_law_number hr (by omega) rfl (pa_cons (pv 0) pa_nil)) pa_nil))))))))), ?_⟩
  have two : ∀ x y : V, [x, y].length ≤ sizeLine := fun x y => small (by show 2 ≤ _; decide)
  have three : ∀ x y z : V, [x, y, z].length ≤ sizeLine := fun x y z => small (by show 3 ≤ _; decide)
  refine ⟨_, rfl, l, c, A, e.cs, e.ns, fr, e.wo, su, e.so, "integer", ps, rfl, B.b.toBx, B.hso, B.hps, O.lw, fun H1 p s1 p0 hp => ?_⟩
  have np : p ≠ l := (P0.ne p0).1
  have x1 : Ext l c H H1 := (Ext.refl P0).same s1
  refine vTake rfl x1.pool (by decide) (by decide) fun k H2 k0 k1 x2 => ?_
  have y2 := x1.trans x2
  have hp2 := x2.keep _ _ np hp
  refine ⟨fun σ H' => σ = [some (.ref l), some (.ref A.bx), some (.int (d : Nat)), some (.ref p), some (.int k), none] ∧ H2 = H', ?_, ?_⟩
  · refine ⟨_, rfl, _, _, rfl, rfl, _, rfl, ite2 (fun _ => ?_) (fun _ => ⟨rfl, rfl⟩)⟩
    refine ⟨_, rfl, _, .inl ⟨_, SqL.of hp2, rfl⟩, ?_⟩
    rw [isEmpty_mapS]
    by_cases ne : (e.wo.filter fun w => decide (e.so w = ("integer" : Str))) = []
    · rw [decide_eq_false fun z => z ne]; exact ⟨rfl, rfl⟩
    · rw [decide_eq_true ne]
      refine iteT ⟨_, rfl, _, rfl, pickF (K := K) (E := E) y2.pool np hp2 ne O.lw fun H3 x x3 mx fx => ⟨two _ _, fun t ht => ?_⟩⟩
      exact q _ _ (.var x) ((y2.trans x3).new P0 ht) (dt_var ht) (.ivar mx (of_decide_eq_true fx)) (Nat.le_trans ht_var (by omega))
  rintro σ H' ⟨rfl, rfl⟩
  refine ⟨fun σ H' => σ = [some (.ref l), some (.ref A.bx), some (.int (d : Nat)), some (.ref p), some (.int k), none] ∧ H2 = H', ?_, ?_⟩
  · refine ⟨_, rfl, rfl, _, rfl, ite2 (fun _ => ?_) (fun _ => ⟨rfl, rfl⟩)⟩
    refine ⟨_, rfl, _, _, rfl, rfl, _, rfl, ite2 (fun z => ?_) (fun _ => ⟨rfl, rfl⟩)⟩
    obtain ⟨d', rfl⟩ : ∃ d', d = d' + 1 := ⟨d - 1, by have := of_decide_eq_true z; omega⟩
    have ed : V.int (((d' + 1 : Nat) : Int) - 1) = .int (d' : Nat) := by simp
    refine ⟨_, rfl, _, rfl, _, rfl, _, _, rfl, rfl, l, c, A, e, fr, su, pc, ps, d', by show [V.ref l, .ref A.bx, .int (((d' + 1 : Nat) : Int) - 1)] = _; rw [ed], y2.pool, B.ext P0 y2, O, Nat.zero_le _, by omega, fun H3 v1 t1 x3 dv1 f1 h1 => ?_⟩
    have y3 := y2.trans x3
    refine ⟨two _ _, fun t0 ht0 => ?_⟩
    have y4 := y3.new (o := .tup ((["plus", "minus"] : List Str).map V.str)) P0 ht0
    have hs : SqT K (upd H3 t0 (.tup ((["plus", "minus"] : List Str).map V.str))) t0 ((["plus", "minus"] : List Str).map V.str) := SqT.of upd_same
    refine vTake rfl y4.pool (by decide) (by decide) fun j H5 j0 j1 x5 => ?_
    obtain ⟨m, hm, mm⟩ := pick_str (xs := ["plus", "minus"]) j0 j1
    refine ⟨t0, _, j, _, rfl, rfl, x5.seqT y4.pool hs, hm, _, rfl, ?_⟩
    have y5 := y4.trans x5
    refine ⟨_, rfl, _, rfl, _, rfl, _, _, rfl, rfl, l, c, A, e, fr, su, pc, ps, d', by show [V.ref l, .ref A.bx, .int (((d' + 1 : Nat) : Int) - 1)] = _; rw [ed], y5.pool, B.ext P0 y5, O, Nat.zero_le _, by omega, fun H6 v2 t2 x6 dv2 f2 h2 => ⟨three _ _ _, fun t ht => ?_⟩⟩
    obtain ⟨f, ef, of⟩ : ∃ f : Fm, f.s = m ∧ (f = .plus ∨ f = .minus) := by
      rcases List.mem_cons.mp mm with z | z
      · exact ⟨.plus, z.symm, .inl rfl⟩
      · exact ⟨.minus, (List.mem_singleton.mp z).symm, .inr rfl⟩
    have dv1' := (((dv1.new (o := .tup ((["plus", "minus"] : List Str).map V.str)) ht0).ext y4.pool x5).ext y5.pool x6)
    refine q _ _ (.form f [t1, t2]) ((y5.trans x6).new P0 ht) ?_ (.iop of f1 f2) (Tm.ht_le (n := d' + 2) fun k hk => ?_)
    · unfold Tm.d
      rw [Tm.ds_map, ef]
      exact Dt.mk3 ht (.str _) dv1' dv2
    · rcases List.mem_cons.mp hk with rfl | hk
      · exact h1
      · rw [List.mem_singleton.mp hk]; exact h2
  rintro σ H' ⟨rfl, rfl⟩
  refine ⟨_, rfl, l, c, rfl, y2.pool, fun i H3 x3 i0 i1 => ⟨two _ _, fun t ht => ?_⟩⟩
  refine q _ _ (.int i) ((y2.trans x3).new P0 ht) ?_ (.ilit i0 i1) (Nat.le_trans (Tm.ht_le (n := 0) fun k hk => by cases hk) (by omega))
  unfold Tm.d
  exact Dt.mk2 ht (.str _) (.int _)
theorem ok_map {n : Nat} {f : Addr} {fd : FuncData} (F : Fun K "_law_map" "_law_map" s_law_map f fd) (T : Txt K mg) (C_law_take : C8.Cal P w K mg base 2 "_law_take" (spTake 2) []) (C_law_of_sort : C8.Cal P w K mg base 1 "_law_of_sort" (spOfs K) []) (C_law_pick : C8.Cal P w K mg base 3 "_law_pick" (spPick K) [])
    (C_law_worth : C8.Cal P w K mg base (4 * n + 2) "_law_worth" (spFo .worth 0 K n) []) : FnOk P w K mg base CX0 (4 * n + 5) f fd ["pool", "box", "depth"] (spFo .map 0 K (n + 1)) := by
  refine F.ok sc_law_map (fun vs H Q E h => ?_) (fun cdv A outer s H vs Q E hr h => ?_)
  · obtain ⟨_, _, _, _, _, _, _, _, _, rfl, _⟩ := h
    rfl
  obtain ⟨l, c, A, e, fr, su, pc, ps, d, rfl, P0, B, O, d0, hd, q⟩ := h
  refine ⟨_, (pss_cons (ps_set (i := 3) sc_law_map.nd rfl (Or.inl rfl) (C8.pe_c C_law_of_sort hr (by omega) rfl (pa_cons (pv 1) (pa_cons pe_str pa_nil))))
    (C8.pss_cut (ps_if (PW.pt (pw_and (pt_truth (pv 3) (by intro _; rfl)) (pw_and1 (pt_cmpR op_gt (C8.pe_c C_law_take hr (by omega) rfl (pa_cons (pv 0) (pa_cons pe_int pa_nil))) pe_int (nomark _))))) (pss_one (ps_ret (pe_tup (pa_cons pe_str (pa_cons (C8.pe_c C_law_pick hr (by omega) rfl (pa_cons (pv 0) (pa_cons (pv 3) pa_nil))) pa_nil))))) pss_nil)
    (pss_cons (ps_set (i := 4) sc_law_map.nd rfl (Or.inl rfl) (pe_lst pa_nil))
    (pss_cons (ps_for PassesOwn.never rfl (pi_list (pe_callB cr_sortedS (by rfl) T.z_sorted (by decide +kernel) (pa_cons (pe_dget (hu_of hr) (pv 1) pe_str (fun _ _ => rfl)) pa_nil))) (pg_name (i := 5) sc_law_map.nd rfl (Or.inl rfl)) (pss_one (ps_if (PW.pt (pw_and (pt_cmpR op_eq (C8.pe_c C_law_take hr (by omega) rfl (pa_cons (pv 0) (pa_cons pe_int pa_nil))) pe_int (nomark _)) (pw_and1 (pt_cmpR op_gt (pv 2) pe_int (nomark _))))) (pss_one (ps_expr (pe_bm PySem.F.plainAttrs_list PySem.F.slot_list_append PySem.F.type_list_append mt_append (pv 4) (pa_cons (pe_tup (pa_cons (pv 5) (pa_cons (C8.pe_c C_law_worth hr (by omega) rfl (pa_cons (pv 0) (pa_cons (pv 1) (pa_cons (pe_op op_sub (pv 2) pe_int) pa_nil)))) pa_nil))) pa_nil)))) pss_nil)))
    (pss_one (ps_ret (pe_tup (pa_cons pe_str (pa_cons (pe_callTy call_tuple_of (by rfl) T.z_tuple (by decide +kernel) (pa_cons (pv 4) pa_nil)) pa_nil))))))))), ?_⟩
  have two : ∀ x y : V, [x, y].length ≤ sizeLine := fun x y => small (by show 2 ≤ _; decide)
  refine ⟨_, rfl, l, c, A, e.cs, e.ns, fr, e.wo, su, e.so, "map", ps, rfl, B.b.toBx, B.hso, B.hps, O.lw, fun H1 p s1 p0 hp => ?_⟩
  have np : p ≠ l := (P0.ne p0).1
  have x1 : Ext l c H H1 := (Ext.refl P0).same s1
  refine ⟨fun σ H' => σ = [some (.ref l), some (.ref A.bx), some (.int (d : Nat)), some (.ref p), none, none] ∧ Ext l c H H', ?_, ?_⟩
  · refine ⟨_, rfl, _, .inl ⟨_, SqL.of hp, rfl⟩, ?_⟩
    rw [isEmpty_mapS]
    by_cases ne : (e.wo.filter fun w => decide (e.so w = ("map" : Str))) = []
    · rw [decide_eq_false fun z => z ne]; exact ⟨rfl, x1⟩
    · rw [decide_eq_true ne]
      refine iteT (vTake rfl x1.pool (by decide) (by decide) fun k H2 k0 k1 x2 => ⟨_, _, rfl, rfl, _, rfl, ite2 (fun _ => ?_) (fun _ => ⟨rfl, x1.trans x2⟩)⟩)
      have y2 := x1.trans x2
      refine ⟨_, rfl, _, rfl, pickF (K := K) (E := E) y2.pool np (x2.keep _ _ np hp) ne O.lw fun H3 x x3 mx fx => ⟨two _ _, fun t ht => ?_⟩⟩
      exact q _ _ (.var x) ((y2.trans x3).new P0 ht) (dt_var ht) (.mvar mx (of_decide_eq_true fx)) (Nat.le_trans ht_var (by omega))
  rintro σ H2 ⟨rfl, x2⟩
  refine ⟨Nat.zero_le _, fun L hL => ?_⟩
  have nL : L ≠ l := (x2.pool.ne hL).1
  have x3 := x2.new (o := .lst []) P0 hL
  have B3 := B.ext P0 x3
  have hL3 : (upd H2 L (.lst [])) L = some (.lst []) := upd_same
  generalize upd H2 L (HO.lst []) = H3 at *
  have ln := B3.b.nm.le
  refine ⟨_, rfl, A.bx, _, rfl, B3.b.g.2.1, A.an, e.ns, rfl, SqL.of B3.b.nm.at_, by omega, fun ys sp pm sr hsp => ⟨sp, rfl, ⟨_, SqL.of upd_same⟩, ?_⟩⟩
  have lys : ys.length ≤ 25 := by rw [pm.length_eq]; omega
  have nd : ys.Nodup := pm.nodup_iff.mpr O.nd
  have nsp : sp ≠ l := (x3.pool.ne hsp).1
  have x4 := x3.new (o := .lst (ys.map V.str)) P0 hsp
  have nsL : L ≠ sp := ne_of_none hL3 hsp
  have hL4 : (upd H3 sp (.lst (ys.map V.str))) L = some (.lst []) := by rw [upd_ne nsL]; exact hL3
  have hs4 : (upd H3 sp (.lst (ys.map V.str))) sp = some (.lst (ys.map V.str)) := upd_same
  have P4 := x4.pool
  have LH : H L = none := x2.free P0 hL
  generalize upd H3 sp (HO.lst (ys.map V.str)) = H4 at *
  refine for_it (walk_list (K := K) (xs := ys.map V.str)) (fun i σ H' => ∃ (vs : List V) (es : List (Str × Tm)) (o : Option V), σ = [some (.ref l), some (.ref A.bx), some (.int (d : Nat)), some (.ref p), some (.ref L), o] ∧ Ext l c H H' ∧ H' sp = some (.lst (ys.map V.str)) ∧ H' L = some (.lst vs) ∧ DtAll K H' vs (es.map Tm.ent) ∧ (es.map Prod.fst).Sublist (ys.take i) ∧ (∀ x ∈ es, Fo e .worth x.2 ∧ x.2.ht ≤ d + 1)) ⟨[], [], none, rfl, x4, hs4, hL4, .nil, by simp, fun x h => nomatch h⟩ (fun i σ H' _ h => by obtain ⟨_, _, _, _, _, h, _⟩ := h; exact SqL.of h) ?_ ?_
  · rintro i x σ H5 H6 hi ⟨vs, es, o, rfl, x5, h5, hL5, d5, sl, ok⟩ ⟨rfl, gx⟩
    rw [List.getElem?_map] at gx
    cases e0 : ys[i]? with
    | none => rw [e0] at gx; cases gx
    | some y =>
    rw [e0] at gx
    cases gx
    have sk1 : (es.map Prod.fst).Sublist (ys.take (i + 1)) := by rw [take_snoc e0]; exact sl.trans (List.sublist_append_left _ _)
    refine vTake rfl x5.pool (by decide) (by decide) fun k H7 k0 k1 x7 => ⟨rfl, _, rfl, ite2 (fun _ => ?_) (fun _ => ⟨vs, es, _, rfl, x5.trans x7, x7.keep _ _ nsp h5, x7.keep _ _ nL hL5, d5.ext x5.pool x7, sk1, ok⟩)⟩
    refine ⟨_, rfl, _, _, rfl, rfl, _, rfl, ite2 (fun z => ?_) (fun _ => ⟨vs, es, _, rfl, x5.trans x7, x7.keep _ _ nsp h5, x7.keep _ _ nL hL5, d5.ext x5.pool x7, sk1, ok⟩)⟩
    obtain ⟨d', rfl⟩ : ∃ d', d = d' + 1 := ⟨d - 1, by have := of_decide_eq_true z; omega⟩
    have ed : V.int (((d' + 1 : Nat) : Int) - 1) = .int (d' : Nat) := by simp
    have y7 := x5.trans x7
    refine ⟨_, rfl, .inl ⟨rfl, _, SqL.of (x7.keep _ _ nL hL5)⟩, _, rfl, _, rfl, _, rfl, _, rfl, _, _, rfl, rfl, l, c, A, e, fr, su, pc, ps, d', by show [V.ref l, .ref A.bx, .int (((d' + 1 : Nat) : Int) - 1)] = _; rw [ed], y7.pool, B.ext P0 y7, O, Nat.zero_le _, by omega, fun H8 v t x8 dv fv hv => ⟨two _ _, fun u hu => ?_⟩⟩
    have y8 := x7.trans x8
    have x9 := y8.new (o := .tup [.str y, v]) x5.pool hu
    have lvs : vs.length = es.length := by rw [d5.lenD, List.length_map]
    have les : es.length ≤ 25 := by have := sl.length_le; rw [List.length_map, List.length_take] at this; omega
    have hL9 := x9.keep _ _ nL hL5
    refine ⟨L, _, _, rfl, rfl, hL9, smallL (by omega), vs ++ [.ref u], es ++ [(y, t)], _, rfl, ⟨fun b o hb ho => ?_, (x5.trans x9).pool.upd nL (P0.ne LH).2⟩, ?_, upd_same, ?_, ?_, fun x hx => ?_⟩
    · have : b ≠ L := fun z => by rw [z, LH] at ho; cases ho
      rw [upd_ne this]; exact (x5.trans x9).keep b o hb ho
    · rw [upd_ne nsL.symm]; exact x9.keep _ _ nsp h5
    · rw [List.map_append]
      exact ((d5.ext x5.pool x9).append (.cons (Dt.mk2 hu (.str _) dv) .nil)).upd hL9
    · rw [List.map_append, take_snoc e0]; exact sl.append (List.Sublist.refl _)
    · rcases List.mem_append.mp hx with z | z
      · exact ok x z
      · rw [List.mem_singleton.mp z]; exact ⟨fv, by omega⟩
  · rintro σ H5 ⟨vs, es, o, rfl, x5, h5, hL5, d5, sl, ok⟩
    rw [List.length_map, List.take_length] at sl
    refine ⟨_, rfl, L, vs, rfl, .inl ⟨SqL.of hL5, fun u hu => ⟨two _ _, fun t ht => ?_⟩⟩⟩
    have x6 := (Ext.refl x5.pool).new (o := .tup vs) x5.pool hu
    refine q _ _ (.map es) ((x5.trans x6).new P0 ht) ?_ (.mlit (sl.nodup nd) (fun x hx => ?_) fun x hx => (ok x hx).1) (Tm.ht_le (n := d + 1) fun k hk => ?_)
    · unfold Tm.d
      rw [Tm.es_map]
      exact Dt.mk2 ht (.str _) (.tup (SqT.of upd_same) (d5.ext x5.pool x6))
    · exact pm.mem_iff.mp (sl.subset (List.mem_map_of_mem hx))
    · obtain ⟨x, hx, rfl⟩ := List.mem_map.mp hk
      exact (ok x hx).2
theorem ok_set {n : Nat} {f : Addr} {fd : FuncData} (F : Fun K "_law_set" "_law_set" s_law_set f fd) (T : Txt K mg) (C_law_take : C8.Cal P w K mg base 2 "_law_take" (spTake 2) []) (C_law_of_sort : C8.Cal P w K mg base 1 "_law_of_sort" (spOfs K) []) (C_law_pick : C8.Cal P w K mg base 3 "_law_pick" (spPick K) [])
    (C_law_map : C8.Cal P w K mg base (4 * n + 1) "_law_map" (spFo .map 0 K n) []) (C_law_worth : C8.Cal P w K mg base (4 * n + 2) "_law_worth" (spFo .worth 0 K n) []) : FnOk P w K mg base CX0 (4 * n + 5) f fd ["pool", "box", "depth"] (spFo .set 1 K (n + 1)) := by
  refine F.ok sc_law_set (fun vs H Q E h => ?_) (fun cdv A outer s H vs Q E hr h => ?_)
  · obtain ⟨_, _, _, _, _, _, _, _, _, rfl, _⟩ := h
    rfl
  obtain ⟨l, c, A, e, fr, su, pc, ps, d, rfl, P0, B, O, d0, hd, q⟩ := h
  refine ⟨_, (pss_cons (ps_set (i := 3) sc_law_set.nd rfl (Or.inl rfl) (C8.pe_c C_law_of_sort hr (by omega) rfl (pa_cons (pv 1) (pa_cons pe_str pa_nil))))
    (pss_cons (ps_set (i := 4) sc_law_set.nd rfl (Or.inl rfl) (pe_tup (pa_cons pe_str (pa_cons (C8.pe_c C_law_pick hr (by omega) rfl (pa_cons (pv 0) (pa_cons (pe_dget (hu_of hr) (pv 1) pe_str (fun _ _ => rfl)) pa_nil))) pa_nil))))
    (C8.pss_cut (ps_if (PW.pt (pw_and (pt_truth (pv 3) (by intro _; rfl)) (pw_and1 (pt_cmpR op_eq (C8.pe_c C_law_take hr (by omega) rfl (pa_cons (pv 0) (pa_cons pe_int pa_nil))) pe_int (nomark _))))) (pss_one (ps_set (i := 4) sc_law_set.nd rfl (Or.inl rfl) (pe_tup (pa_cons pe_str (pa_cons (C8.pe_c C_law_pick hr (by omega) rfl (pa_cons (pv 0) (pa_cons (pv 3) pa_nil))) pa_nil))))) pss_nil)
    (pss_cons (ps_set (i := 5) sc_law_set.nd rfl (Or.inl rfl) (C8.pe_c C_law_map hr (by omega) rfl (pa_cons (pv 0) (pa_cons (pv 1) (pa_cons (pe_op op_sub (pv 2) pe_int) pa_nil)))))
    (pss_one (ps_ret (pe_tup (pa_cons pe_str (pa_cons (pv 5) (pa_cons (pv 4) (pa_cons (C8.pe_c C_law_worth hr (by omega) rfl (pa_cons (pv 0) (pa_cons (pv 1) (pa_cons (pe_op op_sub (pv 2) pe_int) pa_nil)))) pa_nil))))))))))), ?_⟩
  have two : ∀ x y : V, [x, y].length ≤ sizeLine := fun x y => small (by show 2 ≤ _; decide)
  refine ⟨_, rfl, l, c, A, e.cs, e.ns, fr, e.wo, su, e.so, "name", ps, rfl, B.b.toBx, B.hso, B.hps, O.lw, fun H1 p s1 p0 hp => ?_⟩
  have np : p ≠ l := (P0.ne p0).1
  have x1 : Ext l c H H1 := (Ext.refl P0).same s1
  have B1 := B.ext P0 x1
  obtain ⟨d', rfl⟩ : ∃ d', d = d' + 1 := ⟨d - 1, by omega⟩
  have ed : V.int (((d' + 1 : Nat) : Int) - 1) = .int (d' : Nat) := by simp
  refine ⟨_, rfl, _, rfl, A.bx, _, rfl, B1.b.g.2.1, B1.b.pickN (E := E) x1.pool fun H2 x x2 mx => ⟨two _ _, fun t ht => ?_⟩⟩
  have y2 := x1.trans x2
  have y3 := y2.new (o := .tup [.str "name", .str x]) P0 ht
  have dk0 : Dt K (upd H2 t (.tup [.str "name", .str x])) (.ref t) (Tm.name x).d := by unfold Tm.d; exact Dt.mk2 ht (.str _) (.str _)
  have hp3 : (upd H2 t (.tup [.str "name", .str x])) p = some (.lst ((e.wo.filter fun w => decide (e.so w = ("name" : Str))).map V.str)) := by rw [upd_ne (ne_of_none (x2.keep _ _ np hp) ht)]; exact x2.keep _ _ np hp
  generalize upd H2 t (HO.tup [.str "name", .str x]) = H3 at *
  refine ⟨fun σ H' => ∃ (v : V) (k : Tm), σ = [some (.ref l), some (.ref A.bx), some (.int (d' + 1 : Nat)), some (.ref p), some v, none] ∧ Ext l c H H' ∧ Dt K H' v k.d ∧ ((∃ s ∈ e.ns, k = .name s) ∨ ∃ w ∈ e.wo, e.so w = ("name" : Str) ∧ k = .var w), ?_, ?_⟩
  · refine ⟨_, rfl, _, .inl ⟨_, SqL.of hp3, rfl⟩, ?_⟩
    rw [isEmpty_mapS]
    have no : ∀ H4, Ext l c H3 H4 → ∃ (v : V) (k : Tm), [some (V.ref l), some (.ref A.bx), some (.int (d' + 1 : Nat)), some (.ref p), some (.ref t), none] = [some (.ref l), some (.ref A.bx), some (.int (d' + 1 : Nat)), some (.ref p), some v, none] ∧ Ext l c H H4 ∧ Dt K H4 v k.d ∧ ((∃ s ∈ e.ns, k = .name s) ∨ ∃ w ∈ e.wo, e.so w = ("name" : Str) ∧ k = .var w) := fun H4 x4 => ⟨_, .name x, rfl, y3.trans x4, dk0.ext y3.pool x4, .inl ⟨x, mx, rfl⟩⟩
    by_cases ne : (e.wo.filter fun w => decide (e.so w = ("name" : Str))) = []
    · rw [decide_eq_false fun z => z ne]; exact no _ (Ext.refl y3.pool)
    · rw [decide_eq_true ne]
      refine iteT (vTake rfl y3.pool (by decide) (by decide) fun k H4 k0 k1 x4 => ⟨rfl, _, rfl, ite2 (fun _ => ?_) (fun _ => no _ x4)⟩)
      refine ⟨_, rfl, _, rfl, pickF (K := K) (E := E) x4.pool np (x4.keep _ _ np hp3) ne O.lw fun H5 z x5 mz fz => ⟨two _ _, fun u hu => ?_⟩⟩
      exact ⟨_, .var z, rfl, ((y3.trans x4).trans x5).new P0 hu, dt_var hu, .inr ⟨z, mz, of_decide_eq_true fz, rfl⟩⟩
  rintro σ H4 ⟨kv, k, rfl, x4, dk, ok⟩
  have four : ∀ x y z u : V, [x, y, z, u].length ≤ sizeLine := fun x y z u => small (by show 4 ≤ _; decide)
  refine ⟨_, rfl, _, rfl, _, rfl, _, _, rfl, rfl, l, c, A, e, fr, su, pc, ps, d', by show [V.ref l, .ref A.bx, .int (((d' + 1 : Nat) : Int) - 1)] = _; rw [ed], x4.pool, B.ext P0 x4, O, Nat.zero_le _, by omega, fun H5 mv m x5 dm fm hm => ?_⟩
  have y5 := x4.trans x5
  refine ⟨_, rfl, _, rfl, _, rfl, _, rfl, _, rfl, _, _, rfl, rfl, l, c, A, e, fr, su, pc, ps, d', by show [V.ref l, .ref A.bx, .int (((d' + 1 : Nat) : Int) - 1)] = _; rw [ed], y5.pool, B.ext P0 y5, O, Nat.zero_le _, by omega, fun H6 wv t2 x6 dw fw hw => ⟨four _ _ _ _, fun u hu => ?_⟩⟩
  have hk : k.ht ≤ 1 := by rcases ok with ⟨s, _, rfl⟩ | ⟨s, _, _, rfl⟩ <;> exact Tm.ht_le (n := 0) fun k hk => by cases hk
  refine q _ _ (.form .set [m, k, t2]) ((y5.trans x6).new P0 hu) ?_ (.set fm ok fw) (Tm.ht_le (n := d' + 2) fun z hz => ?_)
  · unfold Tm.d
    rw [Tm.ds_map]
    exact .tup (SqT.of upd_same) (.cons (.str _) (.cons ((dm.ext y5.pool x6).new hu) (.cons ((dk.ext x4.pool (x5.trans x6)).new hu) (.cons (dw.new hu) .nil))))
  · rcases List.mem_cons.mp hz with rfl | hz
    · exact hm
    · rcases List.mem_cons.mp hz with rfl | hz
      · omega
      · rw [List.mem_singleton.mp hz]; exact hw
end
end PK
namespace PK
open PySem L2
/-! nodes, worths, forms -/
section
variable {P : Program} {w : World} {K : PySem.W.Frag} {mg : Str → Option Value} {base : Heap}
theorem ok_node {n : Nat} {f : Addr} {fd : FuncData} (F : Fun K "_law_node" "_law_node" s_law_node f fd) (T : Txt K mg) (C_law_worth : C8.Cal P w K mg base (4 * n + 2) "_law_worth" (spFo .worth 0 K n) []) (C_law_form : C8.Cal P w K mg base (4 * n + 3) "_law_form" (spFo .form 0 K n) []) : FnOk P w K mg base CX0 (4 * n + 5) f fd ["pool", "box", "row", "depth"] (spNd K (n + 1)) := by
  refine F.ok sc_law_node (fun vs H Q E h => ?_) (fun cdv A outer s H vs Q E hr h => ?_)
  · obtain ⟨_, _, _, _, _, _, _, _, _, _, _, rfl, _⟩ := h
    rfl
  obtain ⟨l, c, A, e, fr, su, pc, ps, d, rv, y, rfl, P0, B, O, drv, my, d0, hd, q⟩ := h
  refine ⟨_, (pss_cons (ps_set (i := 4) sc_law_node.nd rfl (Or.inl rfl) (pe_lst pa_nil))
    (pss_cons (ps_for PassesOwn.never rfl (pi_range1 (by rfl) T.z_range (pa_cons (pe_ix ix_tup (pv 2) pe_int (fun _ _ => rfl)) pa_nil)) (pg_name (i := 5) sc_law_node.nd rfl (Or.inl rfl)) (pss_one (ps_if (PW.pt (pw_and (pt_cmpR op_in_seq (pv 5) (pe_ix ix_tup (pv 2) pe_int (fun _ _ => rfl)) rfl) (pw_and1 (pt_cmpR op_eq (pe_ix ix_tup (pv 2) pe_int (fun _ _ => rfl)) pe_str (nomark _))))) (pss_one (ps_expr (pe_bm PySem.F.plainAttrs_list PySem.F.slot_list_append PySem.F.type_list_append mt_append (pv 4) (pa_cons (C8.pe_c C_law_worth hr (by omega) rfl (pa_cons (pv 0) (pa_cons (pv 1) (pa_cons (pe_op op_sub (pv 3) pe_int) pa_nil)))) pa_nil)))) (pss_one (ps_expr (pe_bm PySem.F.plainAttrs_list PySem.F.slot_list_append PySem.F.type_list_append mt_append (pv 4) (pa_cons (C8.pe_c C_law_form hr (by omega) rfl (pa_cons (pv 0) (pa_cons (pv 1) (pa_cons (pe_op op_sub (pv 3) pe_int) pa_nil)))) pa_nil)))))))
    (pss_one (ps_ret (pe_tup (pa_cons pe_str (pa_cons (pe_ix ix_tup (pv 2) pe_int (fun _ _ => rfl)) (pa_cons (pe_callTy call_tuple_of (by rfl) T.z_tuple (by decide +kernel) (pa_cons (pv 4) pa_nil)) pa_nil)))))))), ?_⟩
  have three : ∀ x y z : V, [x, y, z].length ≤ sizeLine := fun x y z => small (by show 3 ≤ _; decide)
  obtain ⟨a, bb, rfl, hs, hb2⟩ := Con.get4 drv
  have yok := O.ck.ok y my
  obtain ⟨d', rfl⟩ : ∃ d', d = d' + 1 := ⟨d - 1, by omega⟩
  have ed : V.int (((d' + 1 : Nat) : Int) - 1) = .int (d' : Nat) := by simp
  refine ⟨Nat.zero_le _, fun L hL => ?_⟩
  have nL : L ≠ l := (P0.ne hL).1
  have x1 := (Ext.refl P0).new (o := .lst []) P0 hL
  refine vTx rfl (x1.seqT P0 hs) rfl ⟨_, rfl, by omega, by have := yok.ar; omega, for_range (lo := 0) (n := y.ar) (fun i σ H' => ∃ (vs : List V) (ts : List Tm) (o : Option V), σ = [some (.ref l), some (.ref A.bx), some (.ref a), some (.int (d' + 1 : Nat)), some (.ref L), o] ∧ ts.length = i ∧ Ext l c H H' ∧ H' L = some (.lst vs) ∧ DtAll K H' vs (ts.map Tm.d) ∧ (∀ (j : Nat) (k : Tm), ts[j]? = some k → (((j : Int) ∈ y.pl ∧ y.kd = ("value" : Str) → Fo e .worth k) ∧ (¬ ((j : Int) ∈ y.pl ∧ y.kd = ("value" : Str)) → Fo e .form k))) ∧ ∀ k ∈ ts, k.ht ≤ d' + 2) ?_ ?_ ?_⟩
  · exact ⟨[], [], none, rfl, rfl, x1, upd_same, .nil, fun j k hk => by simp at hk, fun k hk => nomatch hk⟩
  · rintro i σ H2 hi ⟨vs, ts, o, rfl, lts, x2, h2, d2, ok, hts⟩
    have hs2 := x2.seqT P0 hs
    have hb3 := x2.seqT P0 hb2
    have lvs : vs.length = ts.length := by rw [d2.lenD, List.length_map]
    -- the next part is put behind
    have nx : ∀ (v : V) (t : Tm) (H3 : Hp), Ext l c H2 H3 → Dt K H3 v t.d → (((i : Int) ∈ y.pl ∧ y.kd = ("value" : Str) → Fo e .worth t) ∧ (¬ ((i : Int) ∈ y.pl ∧ y.kd = ("value" : Str)) → Fo e .form t)) → t.ht ≤ d' + 2 →
        H3 L = some (.lst vs) ∧ vs.length < sizeLine ∧ ∃ (vs' : List V) (ts' : List Tm) (o : Option V), [some (V.ref l), some (.ref A.bx), some (.ref a), some (.int (d' + 1 : Nat)), some (.ref L), some (.int (0 + (i : Int)))] = [some (.ref l), some (.ref A.bx), some (.ref a), some (.int (d' + 1 : Nat)), some (.ref L), o] ∧ ts'.length = i + 1 ∧ Ext l c H (upd H3 L (.lst (vs ++ [v]))) ∧ (upd H3 L (.lst (vs ++ [v]))) L = some (.lst vs') ∧ DtAll K (upd H3 L (.lst (vs ++ [v]))) vs' (ts'.map Tm.d) ∧ (∀ (j : Nat) (k : Tm), ts'[j]? = some k → (((j : Int) ∈ y.pl ∧ y.kd = ("value" : Str) → Fo e .worth k) ∧ (¬ ((j : Int) ∈ y.pl ∧ y.kd = ("value" : Str)) → Fo e .form k))) ∧ ∀ k ∈ ts', k.ht ≤ d' + 2 := fun v t H3 x3 dv fo ht => by
      have h3 := x3.keep _ _ nL h2
      refine ⟨h3, smallL (by have := yok.ar; omega), vs ++ [v], ts ++ [t], _, rfl, by rw [List.length_append, lts]; rfl, ⟨fun b o hb ho => ?_, x3.pool.upd nL (P0.ne hL).2⟩, upd_same, ?_, fun j k hk => ?_, fun k hk => ?_⟩
      · have : b ≠ L := fun z => by rw [z, hL] at ho; cases ho
        rw [upd_ne this]; exact (x2.trans x3).keep b o hb ho
      · rw [List.map_append]; exact ((d2.ext x2.pool x3).append (.cons dv .nil)).upd h3
      · by_cases hj : j < ts.length
        · rw [List.getElem?_append_left hj] at hk; exact ok j k hk
        · rw [List.getElem?_append_right (by omega)] at hk
          have : j = i := by
            rcases Nat.eq_zero_or_pos (j - ts.length) with z | z
            · omega
            · rw [List.getElem?_eq_none (by show 1 ≤ _; omega)] at hk; cases hk
          subst this
          rw [lts, Nat.sub_self] at hk
          cases hk
          exact fo
      · rcases List.mem_append.mp hk with z | z
        · exact hts k z
        · rw [List.mem_singleton.mp z]; exact ht
    have ea : [V.ref l, .ref A.bx, .int (((d' + 1 : Nat) : Int) - 1)] = [.ref l, .ref A.bx, .int (d' : Nat)] := by rw [ed]
    refine ⟨_, rfl, vTx rfl hs2 rfl ⟨bb, _, rfl, .inr hb3, rfl, flat_ints _, _, rfl, ?_⟩⟩
    rw [inV_int]
    by_cases m : (0 + (i : Int)) ∈ y.pl
    · have ez : (if false = true then !decide ((0 + (i : Int)) ∈ y.pl) else decide ((0 + (i : Int)) ∈ y.pl)) = true := decide_eq_true m
      rw [ez]
      refine iteT (vTx rfl hs2 rfl ⟨rfl, _, rfl, ?_⟩)
      by_cases kv : y.kd = ("value" : Str)
      · refine sT kv ?_
        refine ⟨_, rfl, .inl ⟨rfl, _, SqL.of h2⟩, _, rfl, _, rfl, _, rfl, _, _, rfl, rfl, l, c, A, e, fr, su, pc, ps, d', ea, x2.pool, B.ext P0 x2, O, Nat.zero_le _, by omega, fun H3 v t x3 dv fv hv => ?_⟩
        obtain ⟨k1, k2, k3⟩ := nx v t H3 x3 dv ⟨fun _ => fv, fun z => absurd ⟨by rw [Int.zero_add] at m; exact m, kv⟩ z⟩ hv
        exact ⟨L, _, _, rfl, rfl, k1, k2, k3⟩
      · refine sF kv ?_
        refine ⟨_, rfl, .inl ⟨rfl, _, SqL.of h2⟩, _, rfl, _, rfl, _, rfl, _, _, rfl, rfl, l, c, A, e, fr, su, pc, ps, d', ea, x2.pool, B.ext P0 x2, O, Nat.zero_le _, by omega, fun H3 v t x3 dv fv hv => ?_⟩
        have hn : ¬ ((i : Int) ∈ y.pl ∧ y.kd = ("value" : Str)) := fun z => kv z.2
        obtain ⟨k1, k2, k3⟩ := nx v t H3 x3 dv ⟨fun z => absurd z hn, fun _ => fv⟩ hv
        exact ⟨L, _, _, rfl, rfl, k1, k2, k3⟩
    · have ez : (if false = true then !decide ((0 + (i : Int)) ∈ y.pl) else decide ((0 + (i : Int)) ∈ y.pl)) = false := decide_eq_false m
      rw [ez]
      refine iteF ?_
      refine ⟨_, rfl, .inl ⟨rfl, _, SqL.of h2⟩, _, rfl, _, rfl, _, rfl, _, _, rfl, rfl, l, c, A, e, fr, su, pc, ps, d', ea, x2.pool, B.ext P0 x2, O, Nat.zero_le _, by omega, fun H3 v t x3 dv fv hv => ?_⟩
      have hn : ¬ ((i : Int) ∈ y.pl ∧ y.kd = ("value" : Str)) := fun z => m (by rw [Int.zero_add]; exact z.1)
      obtain ⟨k1, k2, k3⟩ := nx v t H3 x3 dv ⟨fun z => absurd z hn, fun _ => fv⟩ hv
      exact ⟨L, _, _, rfl, rfl, k1, k2, k3⟩
  · rintro σ H2 ⟨vs, ts, o, rfl, lts, x2, h2, d2, ok, hts⟩
    refine vTx rfl (x2.seqT P0 hs) rfl ⟨_, rfl, L, vs, rfl, .inl ⟨SqL.of h2, fun u hu => ⟨three _ _ _, fun t ht => ?_⟩⟩⟩
    have y5 := (Ext.refl x2.pool).new (o := .tup vs) x2.pool hu
    refine q _ _ ts ((x2.trans y5).new P0 ht) ?_ lts ok (Tm.ht_le hts)
    unfold Tm.d
    rw [Tm.ds_map]
    exact Dt.mk3 ht (.str _) (.str _) (.tup (SqT.of upd_same) (d2.ext x2.pool y5))
theorem ok_worth {n : Nat} {f : Addr} {fd : FuncData} (F : Fun K "_law_worth" "_law_worth" s_law_worth f fd) (T : Txt K mg) (C_law_take : C8.Cal P w K mg base 2 "_law_take" (spTake 2) []) (C_law_of_kind : C8.Cal P w K mg base 1 "_law_of_kind" (spKind K) []) (C_law_pick : C8.Cal P w K mg base 3 "_law_pick" (spPick K) []) (C_law_atom : C8.Cal P w K mg base 4 "_law_atom" (spAtom K) [])
    (C_law_integer : C8.Cal P w K mg base (n + 5) "_law_integer" (spFo .int 0 K (n + 1)) []) (C_law_set : C8.Cal P w K mg base (4 * n + 5) "_law_set" (spFo .set 1 K (n + 1)) []) (C_law_node : C8.Cal P w K mg base (4 * n + 5) "_law_node" (spNd K (n + 1)) []) : FnOk P w K mg base CX0 (4 * n + 6) f fd ["pool", "box", "depth"] (spFo .worth 0 K (n + 1)) := by
  refine F.ok sc_law_worth (fun vs H Q E h => ?_) (fun cdv A outer s H vs Q E hr h => ?_)
  · obtain ⟨_, _, _, _, _, _, _, _, _, rfl, _⟩ := h
    rfl
  obtain ⟨l, c, A, e, fr, su, pc, ps, d, rfl, P0, B, O, d0, hd, q⟩ := h
  refine ⟨_, (pss_cons (ps_set (i := 3) sc_law_worth.nd rfl (Or.inl rfl) (C8.pe_c C_law_take hr (by omega) rfl (pa_cons (pv 0) (pa_cons pe_int pa_nil))))
    (pss_cons (ps_setLc (i := 4) (own := [("word", 8)]) (g := (gName 8)) (by rfl) sc_law_worth.nd rfl rfl (sw_true rfl rfl rfl (by decide +kernel)) (pi_list (pe_dget (hu_of hr) (pv 1) pe_str (fun _ _ => rfl))) (blkOk_by (N := ["pool", "box", "depth", "kind", "words", "condition", "gets", "row", "word"]) (sc := defScope s_law_worth) (by decide +kernel)) (fun _ _ _ _ _ => (pg_name (i := 8) sc_law_worth.nd rfl (Or.inl rfl))) (fun _ _ _ _ _ => pts_one (pt_cmpR op_ne (pe_dget (hu_of hr) (pe_dget (hu_of hr) (pv 1) pe_str (fun _ _ => rfl)) (pv 8) (fun _ _ => rfl)) pe_str (nomark _))) (fun _ _ _ _ _ => (pv 8)))
    (pss_cons (ps_setLc (i := 6) (own := [("condition", 5)]) (g := (gName 5)) (by rfl) sc_law_worth.nd rfl rfl (sw_true rfl rfl rfl (by decide +kernel)) (pi_tup (pe_dget (hu_of hr) (pv 1) pe_str (fun _ _ => rfl))) (blkOk_by (N := ["pool", "box", "depth", "kind", "words", "condition", "gets", "row", "word"]) (sc := defScope s_law_worth) (by decide +kernel)) (fun _ _ _ _ _ => (pg_name (i := 5) sc_law_worth.nd rfl (Or.inl rfl))) (fun _ _ _ _ _ => pts_one (pt_cmpR op_eq (pe_ix (r := rIxT K) ix_tup (pv 5) pe_int (fun _ _ => rfl)) pe_str (nomark _))) (fun _ _ _ _ _ => (pv 5)))
    (C8.pss_cut (ps_if (PW.pt (pw_and (pt_cmpR op_lt (pv 3) pe_int (nomark _)) (pw_and1 (pt_truth (pv 4) (by intro _; rfl))))) (pss_one (ps_ret (pe_tup (pa_cons pe_str (pa_cons (C8.pe_c C_law_pick hr (by omega) rfl (pa_cons (pv 0) (pa_cons (pv 4) pa_nil))) pa_nil))))) pss_nil)
    (C8.pss_cut (ps_if (pt_cmpR op_eq (pv 3) pe_int (nomark _)) (pss_one (ps_ret (C8.pe_c C_law_integer hr (by omega) rfl (pa_cons (pv 0) (pa_cons (pv 1) (pa_cons (pv 2) pa_nil)))))) pss_nil)
    (C8.pss_cut (ps_if (PW.pt (pw_and (pt_cmpR op_eq (pv 3) pe_int (nomark _)) (pw_and1 (pt_truth (pv 6) (by intro _; rfl))))) (pss_cons (ps_set (i := 5) sc_law_worth.nd rfl (Or.inl rfl) (C8.pe_c C_law_pick hr (by omega) rfl (pa_cons (pv 0) (pa_cons (pv 6) pa_nil))))
    (pss_one (ps_ret (pe_tup (pa_cons pe_str (pa_cons (pe_tup (pa_cons pe_str (pa_cons (pe_ix ix_tup (pv 5) pe_int (fun _ _ => rfl)) pa_nil))) (pa_cons (pe_ix ix_tup (pv 5) pe_int (fun _ _ => rfl)) pa_nil))))))) pss_nil)
    (C8.pss_cut (ps_if (PW.pt (pw_and (pt_cmpR op_eq (pv 3) pe_int (nomark _)) (pw_and1 (pt_cmpR op_gt (pv 2) pe_int (nomark _))))) (pss_one (ps_ret (C8.pe_c C_law_set hr (by omega) rfl (pa_cons (pv 0) (pa_cons (pv 1) (pa_cons (pv 2) pa_nil)))))) pss_nil)
    (C8.pss_cut (ps_if (PW.pt (pw_and (pt_cmpR op_eq (pv 3) pe_int (nomark _)) (pw_and1 (pt_cmpR op_gt (pv 2) pe_int (nomark _))))) (pss_cons (ps_set (i := 7) sc_law_worth.nd rfl (Or.inl rfl) (C8.pe_c C_law_pick hr (by omega) rfl (pa_cons (pv 0) (pa_cons (C8.pe_c C_law_of_kind hr (by omega) rfl (pa_cons (pv 1) (pa_cons pe_str pa_nil))) pa_nil))))
    (pss_one (ps_ret (C8.pe_c C_law_node hr (by omega) rfl (pa_cons (pv 0) (pa_cons (pv 1) (pa_cons (pv 7) (pa_cons (pv 2) pa_nil)))))))) pss_nil)
    (pss_one (ps_ret (C8.pe_c C_law_atom hr (by omega) rfl (pa_cons (pv 0) (pa_cons (pe_dget (hu_of hr) (pv 1) pe_str (fun _ _ => rfl)) pa_nil))))))))))))), ?_⟩
  have two : ∀ x y : V, [x, y].length ≤ sizeLine := fun x y => small (by show 2 ≤ _; decide)
  have three : ∀ x y z : V, [x, y, z].length ≤ sizeLine := fun x y z => small (by show 3 ≤ _; decide)
  refine vTake rfl P0 (by decide) (by decide) fun k H1 k0 k1 x1 => ?_
  have B1 := B.ext P0 x1
  have P1 := x1.pool
  refine ⟨_, rfl, A.bx, _, rfl, B1.b.g.2.2.2.1, A.aw, rfl, ⟨_, SqL.of B1.b.hw⟩, fun D hD => lc_it (walk_list (K := K) (xs := e.wo.map V.str)) (fun i H' => Same H1 H' ∧ H' D = some (.lst (((e.wo.take i).filter fun w => decide (e.so w ≠ ("any" : Str))).map V.str))) ⟨same_new hD, by rw [List.take_zero]; exact upd_same⟩ (fun i H' _ h => SqL.of (h.1 _ _ B1.b.hw)) ?_ ?_⟩
  · rintro i x H2 H3 hi ⟨s1, h1⟩ ⟨rfl, gx⟩
    rw [List.getElem?_map] at gx
    cases e0 : e.wo[i]? with
    | none => rw [e0] at gx; cases gx
    | some y =>
    rw [e0] at gx
    cases gx
    have B2 := B1.ext P1 ((Ext.refl P1).same s1)
    refine ⟨rfl, _, rfl, A.bx, _, rfl, B2.g.2.1, _, rfl, ps, _, rfl, B2.g.2.2 y (List.mem_of_getElem? e0), rfl, _, rfl, ?_⟩
    rw [take_snoc e0, List.filter_append]
    have ll : (((e.wo.take i).filter fun w => decide (e.so w ≠ ("any" : Str))).map V.str).length < sizeLine := smallL (by
      rw [List.length_map]
      have h1 := List.length_filter_le (fun w => decide (e.so w ≠ ("any" : Str))) (e.wo.take i)
      have h2 := List.length_take_le' i e.wo
      have := O.lw
      omega)
    by_cases z : e.so y = ("any" : Str)
    · rw [List.filter_cons_of_neg (by simp [z]), List.filter_nil, List.append_nil, decide_eq_true (by rw [z])]
      exact ⟨s1, h1⟩
    · rw [List.filter_cons_of_pos (by simp [z]), List.filter_nil, List.map_append, decide_eq_false fun z2 => z (V.str.inj z2)]
      exact ⟨_, rfl, _, h1, ll, Same.upd s1 hD, upd_same⟩
  rintro H2 ⟨s2, hD2⟩
  rw [List.length_map, List.take_length] at hD2
  have x2 := x1.same s2
  have nD : D ≠ l := (P1.ne hD).1
  have B2 := B.ext P0 x2
  obtain ⟨pc', cv, epc, hcv, dcv⟩ := Dt.tn B2.b.dc
  cases epc
  have lcv : cv.length = e.ds.length := by rw [dcv.lenD, List.length_map]
  refine ⟨_, rfl, A.bx, _, rfl, B2.g.1, pc, rfl, ⟨_, hcv⟩, fun G hG => lc_it (walk_tup (K := K) (xs := cv)) (fun i H' => Same H2 H' ∧ ∃ rv', H' G = some (.lst rv') ∧ DtAll K H' rv' (((e.ds.take i).filter fun c => decide (c.hd = ("has" : Str))).map Cd.d)) ⟨same_new hG, [], upd_same, by rw [List.take_zero]; exact .nil⟩ (fun i H' _ h => Same.seqT h.1 hcv) ?_ ?_⟩
  · rintro i x H3 H4 hi ⟨s3, rv', h3, d3⟩ ⟨rfl, gx⟩
    obtain ⟨dd, gd, dx⟩ := dcv.getX gx
    rw [List.getElem?_map] at gd
    cases e0 : e.ds[i]? with
    | none => rw [e0] at gd; cases gd
    | some y =>
    rw [e0] at gd
    cases gd
    obtain ⟨a, x1, r, rfl, hsq⟩ := Cd.parts (dx.same s3)
    have lrv' : rv'.length ≤ i := by
      rw [d3.lenD, List.length_map]
      exact Nat.le_trans (List.length_filter_le _ _) (by rw [List.length_take]; omega)
    have lds := O.cd.le
    refine ⟨rfl, vTx (v := .str y.hd) rfl hsq (atI_nat (j := 0) rfl) ⟨rfl, _, rfl, ?_⟩⟩
    rw [take_snoc e0, List.filter_append]
    by_cases z : y.hd = ("has" : Str)
    · rw [List.filter_cons_of_pos (by exact decide_eq_true z), List.filter_nil, List.map_append]
      exact sT z ⟨_, rfl, rv', h3, smallL (by omega), Same.upd s3 hG, _, upd_same, (d3.append (.cons (dx.same s3) .nil)).upd h3⟩
    · rw [List.filter_cons_of_neg (by exact fun y => z (of_decide_eq_true y)), List.filter_nil, List.append_nil]
      exact sF z ⟨s3, rv', h3, d3⟩
  rintro H3 ⟨s3, rv, hG3, dG⟩
  rw [lcv, List.take_length] at dG
  have x3 := x2.same s3
  have P3 := x3.pool
  have B3 := B.ext P0 x3
  have hD3 := s3 _ _ hD2
  have nG : G ≠ l := (x2.pool.ne hG).1
  have lrv : rv.length = (e.ds.filter fun c => decide (c.hd = ("has" : Str))).length := by rw [dG.lenD, List.length_map]
  have S0 : L2.St := [some (.ref l), some (.ref A.bx), some (.int (d : Nat)), some (.int k), some (.ref D), none, some (.ref G), none, none]
  refine ⟨fun σ H' => σ = [some (.ref l), some (.ref A.bx), some (.int (d : Nat)), some (.int k), some (.ref D), none, some (.ref G), none, none] ∧ H3 = H', ?_, ?_⟩
  · refine ⟨_, rfl, _, _, rfl, rfl, _, rfl, ite2 (fun _ => ?_) (fun _ => ⟨rfl, rfl⟩)⟩
    refine ⟨_, rfl, _, .inl ⟨_, SqL.of hD3, rfl⟩, ?_⟩
    rw [isEmpty_mapS]
    by_cases ne : (e.wo.filter fun w => decide (e.so w ≠ ("any" : Str))) = []
    · rw [decide_eq_false fun z => z ne]; exact ⟨rfl, rfl⟩
    · rw [decide_eq_true ne]
      refine iteT ⟨_, rfl, _, rfl, pickF (K := K) (E := E) P3 nD hD3 ne O.lw fun H4 x x4 mx fx => ⟨two _ _, fun t ht => ?_⟩⟩
      exact q _ _ (.var x) ((x3.trans x4).new P0 ht) (dt_var ht) (.wvar mx (of_decide_eq_true fx)) (Nat.le_trans ht_var (by omega))
  rintro σ H' ⟨rfl, rfl⟩
  refine ⟨fun σ H' => σ = [some (.ref l), some (.ref A.bx), some (.int (d : Nat)), some (.int k), some (.ref D), none, some (.ref G), none, none] ∧ H3 = H', ?_, ?_⟩
  · refine ⟨_, rfl, rfl, _, rfl, ite2 (fun _ => ?_) (fun _ => ⟨rfl, rfl⟩)⟩
    exact ⟨_, rfl, _, rfl, _, rfl, l, c, A, e, fr, su, pc, ps, d, rfl, P3, B3, O, Nat.zero_le _, hd, fun H4 v t x4 dv ft ht => q H4 v t (x3.trans x4) dv (.wint ft) ht⟩
  rintro σ H' ⟨rfl, rfl⟩
  refine ⟨fun σ H' => σ = [some (.ref l), some (.ref A.bx), some (.int (d : Nat)), some (.int k), some (.ref D), none, some (.ref G), none, none] ∧ H3 = H', ?_, ?_⟩
  · refine ⟨_, rfl, rfl, _, rfl, ite2 (fun _ => ?_) (fun _ => ⟨rfl, rfl⟩)⟩
    refine ⟨_, rfl, _, .inl ⟨_, SqL.of hG3, rfl⟩, ?_⟩
    cases hrv : rv with
    | nil => exact ⟨rfl, rfl⟩
    | cons v0 r0 =>
    have ne : rv ≠ [] := by rw [hrv]; exact fun z => nomatch z
    have lds := O.cd.le
    have lfi := List.length_filter_le (fun c : Cd => decide (c.hd = ("has" : Str))) e.ds
    refine iteT ⟨_, rfl, _, rfl, l, c, G, rv, rfl, P3, nG, hG3, ne, by omega, fun H4 j x x4 gx => ?_⟩
    obtain ⟨dd, gd, dx⟩ := (dG.ext P3 x4).getX gx
    rw [List.getElem?_map] at gd
    cases e0 : (e.ds.filter fun c => decide (c.hd = ("has" : Str)))[j]? with
    | none => rw [e0] at gd; cases gd
    | some y =>
    rw [e0] at gd
    cases gd
    obtain ⟨my, hy⟩ := List.mem_filter.mp (List.mem_of_getElem? e0)
    have hy : y.hd = ("has" : Str) := of_decide_eq_true hy
    have oy := O.cd.ok y my
    obtain ⟨xw, kw, rfl⟩ : ∃ xw kw, y = .has xw kw := by
      cases y with
      | has a b => exact ⟨a, b, rfl⟩
      | one h x => exact absurd oy.1 (by rw [show h = ("has" : Str) from hy]; decide +kernel)
      | two h _ _ => exact absurd oy.1 (by rw [show h = ("has" : Str) from hy]; decide +kernel)
      | neg _ => exact absurd hy (by show ¬ ("not" : Str) = "has"; decide +kernel)
    obtain ⟨a, y0, y1, y2, rfl, hs, f0, f1, f2⟩ := Dt.t3 dx
    rw [f0.s, f1.s] at hs
    refine vTx rfl hs rfl ⟨two _ _, fun t ht => ?_⟩
    have s4 : Same H4 (upd H4 t (.tup [.str "meta", .str xw])) := same_new ht
    refine vTx rfl (Same.seqT s4 hs) rfl ⟨three _ _ _, fun u hu => ?_⟩
    have hkw : kw.ht ≤ 1 := by
      rcases oy.2 with ⟨s, _, rfl⟩ | ⟨s, _, rfl⟩ <;> exact Tm.ht_le (n := 0) fun k hk => by cases hk
    refine q _ _ (.form .get [.var xw, kw]) ((((x3.trans x4).new P0 ht)).new P0 hu) ?_ (.wget my) (Tm.ht_le (n := d + 1) fun z hz => ?_)
    · have e1 : (Tm.form .get [.var xw, kw]).d = .tuple [.str "get", (Tm.var xw).d, kw.d] := by
        conv => lhs; unfold Tm.d
        rw [Tm.ds_map]; rfl
      rw [e1]
      exact Dt.mk3 hu (.str _) (dt_var ht) (f2.same s4)
    · rcases List.mem_cons.mp hz with rfl | hz
      · exact Nat.le_trans ht_var (by omega)
      · rw [List.mem_singleton.mp hz]; omega
  rintro σ H' ⟨rfl, rfl⟩
  refine ⟨fun σ H' => σ = [some (.ref l), some (.ref A.bx), some (.int (d : Nat)), some (.int k), some (.ref D), none, some (.ref G), none, none] ∧ H3 = H', ?_, ?_⟩
  · refine ⟨_, rfl, rfl, _, rfl, ite2 (fun _ => ?_) (fun _ => ⟨rfl, rfl⟩)⟩
    refine ⟨_, rfl, _, _, rfl, rfl, _, rfl, ite2 (fun z => ?_) (fun _ => ⟨rfl, rfl⟩)⟩
    exact ⟨_, rfl, _, rfl, _, rfl, l, c, A, e, fr, su, pc, ps, d, rfl, P3, B3, O, by have := of_decide_eq_true z; omega, hd, fun H4 v t x4 dv ft ht => q H4 v t (x3.trans x4) dv (.wset ft) ht⟩
  rintro σ H' ⟨rfl, rfl⟩
  refine ⟨fun σ H' => σ = [some (.ref l), some (.ref A.bx), some (.int (d : Nat)), some (.int k), some (.ref D), none, some (.ref G), none, none] ∧ H3 = H', ?_, ?_⟩
  · refine ⟨_, rfl, rfl, _, rfl, ite2 (fun _ => ?_) (fun _ => ⟨rfl, rfl⟩)⟩
    refine ⟨_, rfl, _, _, rfl, rfl, _, rfl, ite2 (fun z => ?_) (fun _ => ⟨rfl, rfl⟩)⟩
    have ck := O.ck
    have lcs := ck.le
    have lfi := List.length_filter_le (fun x : Con => decide (x.kd = ("value" : Str))) e.cs
    refine ⟨_, rfl, _, rfl, l, c, A, e.cs, e.ns, fr, e.wo, su, "value", rfl, B3.b.toBx, ck.le, fun H4 p rv2 s4 hp0 hp dv => ?_⟩
    have x4 := x3.same s4
    have lrv2 : rv2.length = (e.cs.filter fun x => decide (x.kd = ("value" : Str))).length := by rw [dv.lenD, List.length_map]
    refine ⟨l, c, p, rv2, rfl, x4.pool, (P3.ne hp0).1, hp, (fun z => ?_), by omega, fun H5 j x x5 gx => ?_⟩
    · rw [z] at lrv2
      obtain ⟨x, hx, kx⟩ := ck.va
      have : x ∈ e.cs.filter fun x => decide (x.kd = ("value" : Str)) := List.mem_filter.mpr ⟨hx, decide_eq_true kx⟩
      rw [List.length_eq_zero_iff.mp lrv2.symm] at this; cases this
    obtain ⟨dd, gd, dx⟩ := (dv.ext x4.pool x5).getX gx
    rw [List.getElem?_map] at gd
    cases e0 : (e.cs.filter fun x => decide (x.kd = ("value" : Str)))[j]? with
    | none => rw [e0] at gd; cases gd
    | some y =>
    rw [e0] at gd
    cases gd
    obtain ⟨my, hy⟩ := List.mem_filter.mp (List.mem_of_getElem? e0)
    have hy : y.kd = ("value" : Str) := of_decide_eq_true hy
    have y5 := x4.trans x5
    exact ⟨_, rfl, _, rfl, _, rfl, _, rfl, l, c, A, e, fr, su, pc, ps, d, _, y, rfl, y5.pool, B.ext P0 y5, O, dx, my, by have := of_decide_eq_true z; omega, hd, fun H6 v ts x6 dn ln ok ht => q H6 v _ (y5.trans x6) dn (.wnode my hy ln (fun i k hk m => (ok i k hk).1 ⟨m, hy⟩) fun i k hk m => (ok i k hk).2 fun z => m z.1) ht⟩
  rintro σ H' ⟨rfl, rfl⟩
  refine ⟨_, rfl, _, rfl, A.bx, _, rfl, B3.b.g.2.1, l, c, A.an, e.ns, rfl, P3, B3.b.nm, fun v t H4 x4 dv at_ => ?_⟩
  exact q H4 v t (x3.trans x4) dv (.watom at_) (Nat.le_trans (at_.words (cs := e.cs) true).2.2 (by omega))
theorem ok_form {n : Nat} {f : Addr} {fd : FuncData} (F : Fun K "_law_form" "_law_form" s_law_form f fd) (T : Txt K mg) (C_law_take : C8.Cal P w K mg base 2 "_law_take" (spTake 2) []) (C_law_pick : C8.Cal P w K mg base 3 "_law_pick" (spPick K) [])
    (C_law_node : C8.Cal P w K mg base (4 * n + 5) "_law_node" (spNd K (n + 1)) []) (C_law_worth : C8.Cal P w K mg base (4 * n + 6) "_law_worth" (spFo .worth 0 K (n + 1)) []) : FnOk P w K mg base CX0 (4 * n + 7) f fd ["pool", "box", "depth"] (spFo .form 0 K (n + 1)) := by
  refine F.ok sc_law_form (fun vs H Q E h => ?_) (fun cdv A outer s H vs Q E hr h => ?_)
  · obtain ⟨_, _, _, _, _, _, _, _, _, rfl, _⟩ := h
    rfl
  obtain ⟨l, c, A, e, fr, su, pc, ps, d, rfl, P0, B, O, d0, hd, q⟩ := h
  refine ⟨_, (pss_cons (ps_set (i := 3) sc_law_form.nd rfl (Or.inl rfl) (C8.pe_c C_law_take hr (by omega) rfl (pa_cons (pv 0) (pa_cons pe_int pa_nil))))
    (C8.pss_cut (ps_if (PW.pt (pw_and (pt_cmpR op_lt (pv 3) pe_int (nomark _)) (pw_and1 (pt_cmpR op_gt (pv 2) pe_int (nomark _))))) (pss_one (ps_ret (C8.pe_c C_law_node hr (by omega) rfl (pa_cons (pv 0) (pa_cons (pv 1) (pa_cons (C8.pe_c C_law_pick hr (by omega) rfl (pa_cons (pv 0) (pa_cons (pe_dget (hu_of hr) (pv 1) pe_str (fun _ _ => rfl)) pa_nil))) (pa_cons (pv 2) pa_nil))))))) pss_nil)
    (C8.pss_cut (ps_if (PW.pt (pw_and (pt_cmpR op_lt (pv 3) pe_int (nomark _)) (pw_and1 (pt_truth (pe_dget (hu_of hr) (pv 1) pe_str (fun _ _ => rfl)) (by intro _; rfl))))) (pss_one (ps_ret (pe_tup (pa_cons pe_str (pa_cons (C8.pe_c C_law_pick hr (by omega) rfl (pa_cons (pv 0) (pa_cons (pe_dget (hu_of hr) (pv 1) pe_str (fun _ _ => rfl)) pa_nil))) pa_nil))))) pss_nil)
    (pss_one (ps_ret (C8.pe_c C_law_worth hr (by omega) rfl (pa_cons (pv 0) (pa_cons (pv 1) (pa_cons (pv 2) pa_nil))))))))), ?_⟩
  have two : ∀ x y : V, [x, y].length ≤ sizeLine := fun x y => small (by show 2 ≤ _; decide)
  refine vTake rfl P0 (by decide) (by decide) fun k H1 k0 k1 x1 => ?_
  have B1 := B.ext P0 x1
  have P1 := x1.pool
  refine ⟨fun σ H' => σ = [some (.ref l), some (.ref A.bx), some (.int (d : Nat)), some (.int k)] ∧ H1 = H', ?_, ?_⟩
  · refine ⟨_, rfl, _, _, rfl, rfl, _, rfl, ite2 (fun _ => ?_) (fun _ => ⟨rfl, rfl⟩)⟩
    refine ⟨_, rfl, _, _, rfl, rfl, _, rfl, ite2 (fun z => ?_) (fun _ => ⟨rfl, rfl⟩)⟩
    obtain ⟨rv, hr2, dr⟩ := B1.b.rv
    have lrv : rv.length = e.cs.length := by rw [dr.lenD, List.length_map]
    have lcs := O.ck.le
    refine ⟨_, rfl, _, rfl, _, rfl, _, rfl, A.bx, _, rfl, B1.b.g.1, l, c, A.ar, rv, rfl, P1, B1.b.n1.1, hr2, (fun z => by
      rw [z] at lrv
      obtain ⟨x, hx, _⟩ := O.ck.va
      rw [List.length_eq_zero_iff.mp lrv.symm] at hx; cases hx), by omega, fun H2 j x x2 gx => ?_⟩
    obtain ⟨dd, gd, dx⟩ := (dr.ext P1 x2).getX gx
    rw [List.getElem?_map] at gd
    cases e0 : e.cs[j]? with
    | none => rw [e0] at gd; cases gd
    | some y =>
    rw [e0] at gd
    cases gd
    have my := List.mem_of_getElem? e0
    have y2 := x1.trans x2
    exact ⟨_, rfl, l, c, A, e, fr, su, pc, ps, d, _, y, rfl, y2.pool, B.ext P0 y2, O, dx, my, by have := of_decide_eq_true z; omega, hd, fun H6 v ts x6 dn ln ok ht => q H6 v _ (y2.trans x6) dn (.fnode my ln (fun i k hk m => (ok i k hk).1 m) fun i k hk m => (ok i k hk).2 m) ht⟩
  rintro σ H' ⟨rfl, rfl⟩
  refine ⟨fun σ H' => σ = [some (.ref l), some (.ref A.bx), some (.int (d : Nat)), some (.int k)] ∧ H1 = H', ?_, ?_⟩
  · refine ⟨_, rfl, _, _, rfl, rfl, _, rfl, ite2 (fun _ => ?_) (fun _ => ⟨rfl, rfl⟩)⟩
    refine ⟨_, rfl, A.bx, _, rfl, B1.b.g.2.2.2.1, _, .inl ⟨_, SqL.of B1.b.hw, rfl⟩, ?_⟩
    rw [isEmpty_mapS]
    by_cases ne : e.wo = []
    · rw [decide_eq_false fun z => z ne]; exact ⟨rfl, rfl⟩
    · rw [decide_eq_true ne]
      refine iteT ⟨_, rfl, _, rfl, A.bx, _, rfl, B1.b.g.2.2.2.1, l, c, A.aw, e.wo.map V.str, rfl, P1, B1.b.n3.2.1, B1.b.hw, fun z => ne (List.map_eq_nil_iff.mp z), by rw [List.length_map]; exact O.lw, fun H2 i x x2 gx => ?_⟩
      rw [List.getElem?_map] at gx
      cases e0 : e.wo[i]? with
      | none => rw [e0] at gx; cases gx
      | some s =>
      rw [e0] at gx
      cases gx
      refine ⟨two _ _, fun t ht => ?_⟩
      exact q _ _ (.var s) ((x1.trans x2).new P0 ht) (dt_var ht) (.fvar (List.mem_of_getElem? e0)) (Nat.le_trans ht_var (by omega))
  rintro σ H' ⟨rfl, rfl⟩
  exact ⟨_, rfl, _, rfl, _, rfl, l, c, A, e, fr, su, pc, ps, d, rfl, P1, B1, O, Nat.zero_le _, hd, fun H4 v t x4 dv ft ht => q H4 v t (x1.trans x4) dv (.fworth ft) ht⟩
end
end PK
namespace PK
open PySem L2
/-! actions and rules -/
inductive Act where
  | put (t : Tm)
  | write (a t : Tm)
  | read (a : Tm) (w : Str)
  | new (t : Tm) (w : Str)
def Act.d : Act → PyData
  | .put t => .tuple [.str "put", t.d]
  | .write a t => .tuple [.str "write", a.d, t.d]
  | .read a w => .tuple [.str "read", a.d, .str w]
  | .new t w => .tuple [.str "new", t.d, .str w]
def actD : Option Act → PyData
  | none => .none
  | some a => a.d
/-- an address as an action has it -/
def AdOk (e : FE) (t : Tm) : Prop := (∃ n : Int, 0 ≤ n ∧ n < 3 ∧ t = .addr n) ∨ ∃ w ∈ e.wo, e.so w = ("address" : Str) ∧ t = .var w
def Act.Ok (e : FE) : Act → Prop
  | .put t => Fo e .int t ∧ t.ht ≤ 3
  | .write a t => AdOk e a ∧ Fo e .worth t ∧ t.ht ≤ 3
  | .read a _ => AdOk e a
  | .new t _ => Fo e .worth t ∧ t.ht ≤ 3
def FE.add (e : FE) (w s : Str) : FE := { e with wo := e.wo ++ [w], so := fun x => if x = w then s else e.so x }
/-- what an action does to the words -/
def FE.act (e : FE) : Option Act → FE
  | some (.read _ w) => e.add w "value"
  | some (.new _ w) => e.add w "address"
  | _ => e
def Act.fr : Option Act → List Str
  | some (.read _ w) => [w]
  | some (.new _ w) => [w]
  | _ => []
/-- all but the pool, the box's lists and the sorts is kept -/
structure ExR (l c : Addr) (A : BxA) (ps : Addr) (H H' : Hp) : Prop where
  keep : ∀ b o, b ≠ l → b ≠ A.af → b ≠ A.aw → b ≠ A.su → b ≠ ps → H b = some o → H' b = some o
  pool : Pool H' l c
theorem Bx.updD {K : PySem.W.Frag} {H : Hp} {l c : Addr} {A : BxA} {cs : List Con} {ns fr wo su : List Str} (B : Bx K H l c A cs ns fr wo su) {p : Addr} {kvs kv' : List (Key × V)} (hp : H p = some (.dK kvs)) (nb : p ≠ A.bx) : Bx K (upd H p (.dK kv')) l c A cs ns fr wo su := by
  obtain ⟨kv, hb, e⟩ := B.hb
  obtain ⟨rv, hr, dr⟩ := B.rv
  have nl : ∀ {b : Addr} {xs : List V}, H b = some (.lst xs) → b ≠ p := fun h z => by rw [z, hp] at h; cases h
  exact ⟨B.n1, B.n2, B.n4, B.n3, ⟨kv, by rw [upd_ne nb.symm]; exact hb, e⟩, ⟨rv, by rw [upd_ne (nl hr)]; exact hr, DtAll.mono (fun _ _ z => seqT_updK z hp) _ _ dr⟩, ⟨by rw [upd_ne (nl B.nm.at_)]; exact B.nm.at_, B.nm.ne, B.nm.ne0, B.nm.le, B.nm.wd⟩, by rw [upd_ne (nl B.hf)]; exact B.hf, by rw [upd_ne (nl B.hw)]; exact B.hw, by rw [upd_ne (nl B.hs)]; exact B.hs⟩
theorem upd_comm {H : Hp} {a b : Addr} {x y : HO} (n : a ≠ b) : upd (upd H a x) b y = upd (upd H b y) a x := by
  funext c
  by_cases h1 : c = b
  · rw [h1, upd_same, upd_ne n.symm, upd_same]
  · by_cases h2 : c = a
    · rw [h2, upd_ne n, upd_same, upd_same]
    · rw [upd_ne h1, upd_ne h2, upd_ne h2, upd_ne h1]
section
variable {K : PySem.W.Frag} {H H' H1 : Hp} {l c : Addr} {A : BxA} {e : FE} {fr su : List Str} {pc ps : Addr}
theorem ExR.refl (P : Pool H l c) : ExR l c A ps H H := ⟨fun _ _ _ _ _ _ _ h => h, P⟩
theorem ExR.of (x : Ext l c H H') : ExR l c A ps H H' := ⟨fun b o h _ _ _ _ => x.keep b o h, x.pool⟩
theorem ExR.ofB (x : ExB l c A H H') : ExR l c A ps H H' := ⟨fun b o h1 h2 h3 h4 _ => x.keep b o h1 h2 h3 h4, x.pool⟩
theorem ExR.trans (x : ExR l c A ps H H1) (y : ExR l c A ps H1 H') : ExR l c A ps H H' := ⟨fun b o h1 h2 h3 h4 h5 h => y.keep b o h1 h2 h3 h4 h5 (x.keep b o h1 h2 h3 h4 h5 h), y.pool⟩
theorem ExR.seqT (x : ExR l c A ps H H') (P : Pool H l c) (B : Bx3 K H l c A e fr su pc ps) {a : Addr} {xs : List V} (h : SqT K H a xs) : SqT K H' a xs := by
  obtain ⟨kv3, h3, _⟩ := B.hps
  have nl : ∀ {o : HO}, H a = some o → (∀ ys, o ≠ .lst ys) → (∀ kv, o ≠ .dK kv) → a ≠ l ∧ a ≠ A.af ∧ a ≠ A.aw ∧ a ≠ A.su ∧ a ≠ ps := fun e d d2 => by
    refine ⟨fun z => ?_, fun z => ?_, fun z => ?_, fun z => ?_, fun z => ?_⟩
    · subst z
      obtain ⟨ns, i, r, s, hl, _⟩ := P
      rw [hl] at e; cases e
      exact d _ rfl
    · rw [z, B.b.hf] at e; cases e; exact d _ rfl
    · rw [z, B.b.hw] at e; cases e; exact d _ rfl
    · rw [z, B.b.hs] at e; cases e; exact d _ rfl
    · rw [z, h3] at e; cases e; exact d2 _ rfl
  rcases h with (h | ⟨o, h⟩) | h
  · obtain ⟨z1, z2, z3, z4, z5⟩ := nl h (fun _ => HO.noConfusion) (fun _ => HO.noConfusion)
    exact .inl (.inl (x.keep _ _ z1 z2 z3 z4 z5 h))
  · obtain ⟨z1, z2, z3, z4, z5⟩ := nl h (fun _ => HO.noConfusion) (fun _ => HO.noConfusion)
    exact .inl (.inr ⟨o, x.keep _ _ z1 z2 z3 z4 z5 h⟩)
  · exact .inr h
theorem ExR.dt (x : ExR l c A ps H H') (P : Pool H l c) (B : Bx3 K H l c A e fr su pc ps) {v : V} {d : PyData} (h : Dt K H v d) : Dt K H' v d := Dt.mono (fun _ _ z => x.seqT P B z) _ _ h
/-- another word that is popped -/
theorem Bx3.upF (B : Bx3 K H l c A e fr su pc ps) (fr' : List Str) : Bx3 K (upd H A.af (.lst (fr'.map V.str))) l c A e fr' su pc ps := by
  obtain ⟨kv1, h1, e1⟩ := B.b.hc
  obtain ⟨kv2, h2, e2⟩ := B.hso
  obtain ⟨kv3, h3, e3⟩ := B.hps
  have nd : ∀ {b : Addr} {kv : List (Key × V)}, H b = some (.dK kv) → b ≠ A.af := fun h z => by rw [z, B.b.hf] at h; cases h
  exact ⟨⟨B.b.toBx.upF fr', ⟨kv1, by rw [upd_ne (nd h1)]; exact h1, e1⟩, B.b.dc.updL B.b.hf⟩, B.nps, ⟨kv2, by rw [upd_ne (nd h2)]; exact h2, e2⟩, ⟨kv3, by rw [upd_ne (nd h3)]; exact h3, e3⟩, B.nbx, fun kvs hk => B.hpl kvs (by rw [upd_ne (nd h3)] at hk; exact hk)⟩
/-- a word that is known, with its sort -/
theorem Bx3.add (B : Bx3 K H l c A e fr su pc ps) (w s : Str) {kvs : List (Key × V)} (hk : H ps = some (.dK kvs)) : Bx3 K (upd (upd H A.aw (.lst ((e.wo ++ [w]).map V.str))) ps (.dK (putK kvs (.inr w) (.str s)))) l c A (e.add w s) fr su pc ps := by
  obtain ⟨kv1, h1, e1⟩ := B.b.hc
  obtain ⟨kv2, h2, e2⟩ := B.hso
  obtain ⟨kv3, h3, e3⟩ := B.hps
  have nd : ∀ {b : Addr} {kv : List (Key × V)}, H b = some (.dK kv) → b ≠ A.aw := fun h z => by rw [z, B.b.hw] at h; cases h
  have hk2 : (upd H A.aw (.lst ((e.wo ++ [w]).map V.str))) ps = some (.dK kvs) := by rw [upd_ne (nd hk)]; exact hk
  refine ⟨⟨(B.b.toBx.upW (e.wo ++ [w])).updD hk2 B.nbx, ⟨kv1, by rw [upd_ne B.nbx.symm, upd_ne (nd h1)]; exact h1, e1⟩, Dt.mono (fun _ _ z => seqT_updK z hk2) _ _ (B.b.dc.updL B.b.hw)⟩, B.nps, ⟨kv2, by rw [upd_ne B.nbx.symm, upd_ne (nd h2)]; exact h2, e2⟩, ⟨_, upd_same, fun x hx => ?_⟩, B.nbx, fun kv' hk' => ?_⟩
  · rw [valV_put]
    show _ = some (V.str (if x = w then s else e.so x))
    by_cases z : x = w
    · rw [if_pos (by rw [z]), if_pos z]
    · rw [if_neg (fun y => z (by simpa using y)), if_neg z]
      have : x ∈ e.wo := by
        rcases List.mem_append.mp hx with y | y
        · exact y
        · exact absurd (List.mem_singleton.mp y) z
      rw [h3] at hk; cases hk
      exact e3 x this
  · rw [upd_same] at hk'
    cases hk'
    have := B.hpl kvs hk
    have h2 := length_putK kvs (.inr w : Key) (.str s)
    show _ ≤ (e.wo ++ [w]).length
    rw [List.length_append]
    show _ ≤ e.wo.length + 1
    omega
end
def spAct (K : PySem.W.Frag) : Sp := fun vs H Q _ => ∃ (l c : Addr) (A : BxA) (e : FE) (fr su : List Str) (pc ps : Addr), vs = [.ref l, .ref A.bx] ∧ Pool H l c ∧ Bx3 K H l c A e fr su pc ps ∧ FEo e su ∧ fr.length ≤ 20 ∧
  ∀ (H' : Hp) (v : V) (act : Option Act) (fr' : List Str), ExR l c A ps H H' → Bx3 K H' l c A (e.act act) fr' su pc ps → fr = fr' ++ Act.fr act → Dt K H' v (actD act) → (∀ a, act = some a → a.Ok e) → Q v H'
section
variable {P : Program} {w : World} {K : PySem.W.Frag} {mg : Str → Option Value} {base : Heap}
abbrev s_law_action : Stmt := topS 39
theorem sc_law_action : FnScope ["pool", "box", "kind", "words", "address", "word", "action"] ["pool", "box"] (defScope s_law_action) := ⟨rfl, rfl, rfl, by decide +kernel, rfl, by decide +kernel, by decide +kernel⟩
-- slots: 0:pool 1:box 2:kind 3:words 4:address 5:word 6:action
abbrev s_law_rule : Stmt := topS 40
theorem sc_law_rule : FnScope ["pool", "box", "name", "metas", "pattern", "word", "action"] ["pool", "box", "name", "metas"] (defScope s_law_rule) := ⟨rfl, rfl, rfl, by decide +kernel, rfl, by decide +kernel, by decide +kernel⟩
-- slots: 0:pool 1:box 2:name 3:metas 4:pattern 5:word 6:action
abbrev s_law_language : Stmt := topS 41
theorem sc_law_language : FnScope ["pool", "words", "box", "metas", "rules", "name"] ["pool"] (defScope s_law_language) := ⟨rfl, rfl, rfl, by decide +kernel, rfl, by decide +kernel, by decide +kernel⟩
-- slots: 0:pool 1:words 2:box 3:metas 4:rules 5:name
abbrev s_law_own : Stmt := topS 42
theorem sc_law_own : FnScope ["rows", "rules", "names", "language", "row"] ["rows", "rules", "names"] (defScope s_law_own) := ⟨rfl, rfl, rfl, by decide +kernel, rfl, by decide +kernel, by decide +kernel⟩
-- slots: 0:rows 1:rules 2:names 3:language 4:row
theorem ok_action {f : Addr} {fd : FuncData} (F : Fun K "_law_action" "_law_action" s_law_action f fd) (T : Txt K mg) (C_law_take : C8.Cal P w K mg base 2 "_law_take" (spTake 2) []) (C_law_of_sort : C8.Cal P w K mg base 1 "_law_of_sort" (spOfs K) []) (C_law_pick : C8.Cal P w K mg base 3 "_law_pick" (spPick K) [])
    (C_law_integer : C8.Cal P w K mg base 6 "_law_integer" (spFo .int 0 K 2) []) (C_law_worth : C8.Cal P w K mg base 10 "_law_worth" (spFo .worth 0 K 2) []) : FnOk P w K mg base CX0 11 f fd ["pool", "box"] (spAct K) := by
  refine F.ok sc_law_action (fun vs H Q E h => ?_) (fun cdv AA outer s H vs Q E hr h => ?_)
  · obtain ⟨_, _, _, _, _, _, _, _, rfl, _⟩ := h
    rfl
  obtain ⟨l, c, A, e, fr, su, pc, ps, rfl, P0, B, O, lf, q⟩ := h
  refine ⟨_, (pss_cons (ps_set (i := 2) sc_law_action.nd rfl (Or.inl rfl) (C8.pe_c C_law_take hr (by decide) rfl (pa_cons (pv 0) (pa_cons pe_int pa_nil))))
    (pss_cons (ps_set (i := 3) sc_law_action.nd rfl (Or.inl rfl) (C8.pe_c C_law_of_sort hr (by decide) rfl (pa_cons (pv 1) (pa_cons pe_str pa_nil))))
    (pss_cons (ps_set (i := 4) sc_law_action.nd rfl (Or.inl rfl) (pe_tup (pa_cons pe_str (pa_cons (C8.pe_c C_law_take hr (by decide) rfl (pa_cons (pv 0) (pa_cons pe_int pa_nil))) pa_nil))))
    (C8.pss_cut (ps_if (PW.pt (pw_and (pt_truth (pv 3) (by intro _; rfl)) (pw_and1 (pt_cmpR op_gt (C8.pe_c C_law_take hr (by decide) rfl (pa_cons (pv 0) (pa_cons pe_int pa_nil))) pe_int (nomark _))))) (pss_one (ps_set (i := 4) sc_law_action.nd rfl (Or.inl rfl) (pe_tup (pa_cons pe_str (pa_cons (C8.pe_c C_law_pick hr (by decide) rfl (pa_cons (pv 0) (pa_cons (pv 3) pa_nil))) pa_nil))))) pss_nil)
    (C8.pss_cut (ps_if (pt_cmpR op_eq (pv 2) pe_int (nomark _)) (pss_one (ps_ret (pe_tup (pa_cons pe_str (pa_cons (C8.pe_c C_law_integer hr (by decide) rfl (pa_cons (pv 0) (pa_cons (pv 1) (pa_cons pe_int pa_nil)))) pa_nil))))) pss_nil)
    (C8.pss_cut (ps_if (pt_cmpR op_eq (pv 2) pe_int (nomark _)) (pss_one (ps_ret (pe_tup (pa_cons pe_str (pa_cons (pv 4) (pa_cons (C8.pe_c C_law_worth hr (by decide) rfl (pa_cons (pv 0) (pa_cons (pv 1) (pa_cons pe_int pa_nil)))) pa_nil)))))) pss_nil)
    (C8.pss_cut (ps_if (PW.pt (pw_and (pt_cmpR op_in_seq (pv 2) (pe_tup (pa_cons pe_int (pa_cons pe_int pa_nil))) rfl) (pw_and1 (pt_truth (pe_dget (hu_of hr) (pv 1) pe_str (fun _ _ => rfl)) (by intro _; rfl))))) (pss_cons (ps_set (i := 5) sc_law_action.nd rfl (Or.inl rfl) (pe_bm0 PySem.F.plainAttrs_list PySem.F.slot_list_pop PySem.F.type_list_pop mt_pop (pe_dget (hu_of hr) (pv 1) pe_str (fun _ _ => rfl))))
    (pss_cons (ps_set (i := 6) sc_law_action.nd rfl (Or.inl rfl) (pe_tup (pa_cons pe_str (pa_cons (pv 4) (pa_cons (pv 5) pa_nil)))))
    (C8.pss_cut (ps_if (pt_cmpR op_eq (pv 2) pe_int (nomark _)) (pss_one (ps_set (i := 6) sc_law_action.nd rfl (Or.inl rfl) (pe_tup (pa_cons pe_str (pa_cons (C8.pe_c C_law_worth hr (by decide) rfl (pa_cons (pv 0) (pa_cons (pv 1) (pa_cons pe_int pa_nil)))) (pa_cons (pv 5) pa_nil)))))) pss_nil)
    (pss_cons (ps_expr (pe_bm PySem.F.plainAttrs_list PySem.F.slot_list_append PySem.F.type_list_append mt_append (pe_dget (hu_of hr) (pv 1) pe_str (fun _ _ => rfl)) (pa_cons (pv 5) pa_nil)))
    (pss_cons (ps_dput (hu_of hr) (pe_dget (hu_of hr) (pv 1) pe_str (fun _ _ => rfl)) (pv 5) (pe_ix ix_tup (pe_tup (pa_cons pe_str (pa_cons pe_str pa_nil))) (pe_op op_fdivW (pv 2) pe_int) (fun _ _ => rfl)) rfl)
    (pss_one (ps_ret (pv 6)))))))) pss_nil)
    (pss_one (ps_ret pe_non))))))))), ?_⟩
  have two : ∀ x y : V, [x, y].length ≤ sizeLine := fun x y => small (by show 2 ≤ _; decide)
  have three : ∀ x y z : V, [x, y, z].length ≤ sizeLine := fun x y z => small (by show 3 ≤ _; decide)
  refine vTake rfl P0 (by decide) (by decide) fun k H1 k0 k1 x1 => ?_
  have B1 := B.ext P0 x1
  refine ⟨_, rfl, l, c, A, e.cs, e.ns, fr, e.wo, su, e.so, "address", ps, rfl, B1.b.toBx, B1.hso, B1.hps, O.lw, fun H2 p s2 p0 hp => ?_⟩
  have np : p ≠ l := (x1.pool.ne p0).1
  have x2 : Ext l c H H2 := x1.same s2
  refine vTake rfl x2.pool (by decide) (by decide) fun d H3 d0 d1 x3 => ⟨two _ _, fun t ht => ?_⟩
  have y3 := x2.trans x3
  have y4 := y3.new (o := .tup [.str "addr", .int d]) P0 ht
  have dk0 : Dt K (upd H3 t (.tup [.str "addr", .int d])) (.ref t) (Tm.addr d).d := by unfold Tm.d; exact Dt.mk2 ht (.str _) (.int _)
  have hp3 := x3.keep _ _ np hp
  have hp4 : (upd H3 t (.tup [.str "addr", .int d])) p = some (.lst ((e.wo.filter fun w => decide (e.so w = ("address" : Str))).map V.str)) := by rw [upd_ne (ne_of_none hp3 ht)]; exact hp3
  generalize upd H3 t (HO.tup [.str "addr", .int d]) = H4 at *
  refine ⟨fun σ H' => ∃ (v : V) (a : Tm), σ = [some (.ref l), some (.ref A.bx), some (.int k), some (.ref p), some v, none, none] ∧ Ext l c H H' ∧ Dt K H' v a.d ∧ AdOk e a, ?_, ?_⟩
  · have no : ∀ H5, Ext l c H4 H5 → ∃ (v : V) (a : Tm), [some (V.ref l), some (.ref A.bx), some (.int k), some (.ref p), some (.ref t), none, none] = [some (V.ref l), some (.ref A.bx), some (.int k), some (.ref p), some v, none, none] ∧ Ext l c H H5 ∧ Dt K H5 v a.d ∧ AdOk e a := fun H5 x5 => ⟨_, .addr d, rfl, y4.trans x5, dk0.ext y4.pool x5, .inl ⟨d, d0, d1, rfl⟩⟩
    refine ⟨_, rfl, _, .inl ⟨_, SqL.of hp4, rfl⟩, ?_⟩
    rw [isEmpty_mapS]
    by_cases ne : (e.wo.filter fun w => decide (e.so w = ("address" : Str))) = []
    · rw [decide_eq_false fun z => z ne]; exact no _ (Ext.refl y4.pool)
    · rw [decide_eq_true ne]
      refine iteT (vTake rfl y4.pool (by decide) (by decide) fun j H5 j0 j1 x5 => ⟨_, _, rfl, rfl, _, rfl, ite2 (fun _ => ?_) (fun _ => no _ x5)⟩)
      refine ⟨_, rfl, _, rfl, pickF (K := K) (E := E) x5.pool np (x5.keep _ _ np hp4) ne O.lw fun H6 z x6 mz fz => ⟨two _ _, fun u hu => ?_⟩⟩
      exact ⟨_, .var z, rfl, ((y4.trans x5).trans x6).new P0 hu, dt_var hu, .inr ⟨z, mz, of_decide_eq_true fz, rfl⟩⟩
  rintro σ H5 ⟨av, a, rfl, x5, da, oa⟩
  have B5 := B.ext P0 x5
  have P5 := x5.pool
  refine ⟨fun σ H' => σ = [some (.ref l), some (.ref A.bx), some (.int k), some (.ref p), some av, none, none] ∧ H5 = H', ?_, ?_⟩
  · refine ⟨_, rfl, rfl, _, rfl, ite2 (fun _ => ?_) (fun _ => ⟨rfl, rfl⟩)⟩
    refine ⟨_, rfl, _, rfl, l, c, A, e, fr, su, pc, ps, 1, rfl, P5, B5, O, Nat.zero_le _, by decide, fun H6 v t x6 dv ft ht => ⟨two _ _, fun u hu => ?_⟩⟩
    have y6 := (x5.trans x6).new (o := .tup [.str "put", v]) P0 hu
    exact q _ _ (some (.put t)) fr (ExR.of y6) (B.ext P0 y6) (by simp [Act.fr]) (Dt.mk2 hu (.str _) dv) fun a ha => by cases ha; exact ⟨ft, ht⟩
  rintro σ H' ⟨rfl, rfl⟩
  refine ⟨fun σ H' => σ = [some (.ref l), some (.ref A.bx), some (.int k), some (.ref p), some av, none, none] ∧ H5 = H', ?_, ?_⟩
  · refine ⟨_, rfl, rfl, _, rfl, ite2 (fun _ => ?_) (fun _ => ⟨rfl, rfl⟩)⟩
    refine ⟨_, rfl, _, rfl, _, rfl, l, c, A, e, fr, su, pc, ps, 1, rfl, P5, B5, O, Nat.zero_le _, by decide, fun H6 v t x6 dv ft ht => ⟨three _ _ _, fun u hu => ?_⟩⟩
    have y6 := (x5.trans x6).new (o := .tup [.str "write", av, v]) P0 hu
    exact q _ _ (some (.write a t)) fr (ExR.of y6) (B.ext P0 y6) (by simp [Act.fr]) (Dt.mk3 hu (.str _) (da.ext P5 x6) dv) fun b hb => by cases hb; exact ⟨oa, ft, ht⟩
  rintro σ H' ⟨rfl, rfl⟩
  have last : ∀ H6, Ext l c H H6 → Q .non H6 := fun H6 x6 => q H6 .non none fr (ExR.of x6) (B.ext P0 x6) (by simp [Act.fr]) .non fun a h => nomatch h
  refine ⟨fun σ H' => σ = [some (.ref l), some (.ref A.bx), some (.int k), some (.ref p), some av, none, none] ∧ Q .non H', ?_, ?_⟩
  · refine ⟨_, rfl, two _ _, fun t0 ht0 => ⟨t0, _, rfl, .inr (SqT.of upd_same), rfl, flat_ints [0, 3], _, rfl, ?_⟩⟩
    have y5 := x5.new (o := .tup [.int 0, .int 3]) P0 ht0
    have z5 := (Ext.refl P5).new (o := .tup [.int 0, .int 3]) P5 ht0
    have da5 := da.ext P5 z5
    have ei : (if false = true then !inV (.int k) [.int 0, .int 3] else inV (.int k) [.int 0, .int 3]) = decide (k ∈ ([0, 3] : List Int)) := by
      show inV (.int k) (([0, 3] : List Int).map V.int) = _
      rw [inV_int]
    rw [ei]
    generalize upd H5 t0 (HO.tup [V.int 0, V.int 3]) = H6 at *
    by_cases m : k ∈ ([0, 3] : List Int)
    · rw [decide_eq_true m]
      have B6 := B.ext P0 y5
      refine iteT ⟨_, rfl, A.bx, _, rfl, B6.b.g.2.2.1, _, .inl ⟨_, SqL.of B6.b.hf, rfl⟩, ?_⟩
      rw [isEmpty_mapS]
      by_cases nf : fr = []
      · rw [decide_eq_false fun z => z nf]; exact ⟨rfl, last _ y5⟩
      rw [decide_eq_true nf]
      obtain ⟨fr2, w0, rfl⟩ : ∃ fr2 w0, fr = fr2 ++ [w0] := ⟨fr.dropLast, fr.getLast nf, (List.dropLast_concat_getLast nf).symm⟩
      have lg : ((fr2 ++ [w0]).map V.str)[((fr2 ++ [w0]).map V.str).length - 1]? = some (.str w0) := by simp
      refine iteT ⟨_, rfl, A.bx, _, rfl, B6.b.g.2.2.1, .inl ⟨rfl, _, SqL.of B6.b.hf⟩, A.af, _, _, rfl, rfl, B6.b.hf, lg, ?_⟩
      have B7 := B6.upF fr2
      have x7 : ExB l c A H (upd H6 A.af (.lst (fr2.map V.str))) := (ExB.of y5).up B6.b.toBx (.inl rfl) _
      have da7 : Dt K (upd H6 A.af (.lst (fr2.map V.str))) av a.d := da5.updL B6.b.hf
      rw [show ((fr2 ++ [w0]).map V.str).dropLast = fr2.map V.str by simp]
      generalize upd H6 A.af (HO.lst (fr2.map V.str)) = H7 at *
      refine ⟨_, rfl, _, rfl, three _ _ _, fun t1 ht1 => ?_⟩
      have x8 : Ext l c H7 (upd H7 t1 (.tup [.str "read", av, .str w0])) := (Ext.refl x7.pool).new x7.pool ht1
      have dr8 : Dt K (upd H7 t1 (.tup [.str "read", av, .str w0])) (.ref t1) (Act.read a w0).d := Dt.mk3 ht1 (.str _) da7 (.str _)
      generalize upd H7 t1 (HO.tup [.str "read", av, .str w0]) = H8 at *
      refine ⟨fun σ H' => ∃ (v : V) (act : Act), σ = [some (.ref l), some (.ref A.bx), some (.int k), some (.ref p), some av, some (.str w0), some v] ∧ Ext l c H7 H' ∧ Dt K H' v act.d ∧ act.Ok e ∧ ((k = 0 ∧ ∃ t, act = .new t w0) ∨ (k = 3 ∧ act = .read a w0)), ?_, ?_⟩
      · refine ⟨_, rfl, rfl, _, rfl, ite2 (fun z => ?_) (fun z => ?_)⟩
        · have z : V.int k = V.int 0 := of_decide_eq_true z
          refine ⟨_, rfl, _, rfl, l, c, A, e, fr2, su, pc, ps, 1, rfl, x8.pool, B7.ext x7.pool x8, O, Nat.zero_le _, by decide, fun H9 v t x9 dv ft ht => ⟨_, rfl, three _ _ _, fun u hu => ?_⟩⟩
          exact ⟨_, .new t w0, rfl, (x8.trans x9).new x7.pool hu, Dt.mk3 hu (.str _) dv (.str _), ⟨ft, ht⟩, .inl ⟨by injection z, t, rfl⟩⟩
        · have z : ¬ V.int k = V.int 0 := fun y => z (decide_eq_true y)
          refine ⟨_, .read a w0, rfl, x8, dr8, oa, .inr ⟨?_, rfl⟩⟩
          rcases List.mem_cons.mp m with y | y
          · exact absurd (by rw [y]) z
          · exact List.mem_singleton.mp y
      rintro σ H9 ⟨v, act, rfl, x9, dv, oact, kd⟩
      have B9 := B7.ext x7.pool x9
      have x09 : ExR l c A ps H H9 := (ExR.ofB x7).trans (ExR.of x9)
      have lwo := O.lw
      refine ⟨_, rfl, A.bx, _, rfl, B9.b.g.2.2.2.1, .inl ⟨rfl, _, SqL.of B9.b.hw⟩, _, rfl, A.aw, _, _, rfl, rfl, B9.b.hw, smallL (by rw [List.length_map]; omega), ?_⟩
      rw [show e.wo.map V.str ++ [V.str w0] = (e.wo ++ [w0]).map V.str by simp]
      obtain ⟨kv3, h3, _⟩ := B9.hps
      have lkv := B9.hpl kv3 h3
      have nwp : ps ≠ A.aw := fun z => by rw [z, B9.b.hw] at h3; cases h3
      have hb10 : DGet (upd H9 A.aw (.lst ((e.wo ++ [w0]).map V.str))) A.bx (.str "sorts") (some (.ref ps)) := by
        obtain ⟨kv2, h2, e2⟩ := B9.hso
        have nb : A.bx ≠ A.aw := fun z => by rw [z, B9.b.hw] at h2; cases h2
        have z := DGet.k (H := upd H9 A.aw (.lst ((e.wo ++ [w0]).map V.str))) (k := Sum.inr ("sorts" : Str)) (by rw [upd_ne nb]; exact h2)
        rw [e2] at z
        exact z
      have h310 : (upd H9 A.aw (.lst ((e.wo ++ [w0]).map V.str))) ps = some (.dK kv3) := by rw [upd_ne nwp]; exact h3
      have P10 : Pool (upd H9 A.aw (.lst ((e.wo ++ [w0]).map V.str))) l c := x9.pool.upd B9.b.n3.2.1 B9.b.n4.2.1
      have dv10 := dv.updL (us := (e.wo ++ [w0]).map V.str) B9.b.hw
      refine ⟨two _ _, fun u hu => ⟨_, rfl, _, _, rfl, rfl, ⟨by decide, by decide⟩, ?_⟩⟩
      have nu : u ≠ A.aw := fun z => by rw [z, upd_same] at hu; cases hu
      have hu9 : H9 u = none := by rw [upd_ne nu] at hu; exact hu
      rw [upd_comm nu.symm]
      have x10 : Ext l c H9 (upd H9 u (.tup [.str "address", .str "value"])) := (Ext.refl x9.pool).new x9.pool hu9
      have B10 := B9.ext x9.pool x10
      have hs10 : SqT K (upd H9 u (.tup [.str "address", .str "value"])) u [.str "address", .str "value"] := SqT.of upd_same
      have dv11 := dv.ext x9.pool x10
      have h310' : (upd H9 u (.tup [.str "address", .str "value"])) ps = some (.dK kv3) := x10.keep _ _ B9.nps h3
      generalize upd H9 u (HO.tup [.str "address", .str "value"]) = H10 at *
      have hs11 : SqT K (upd H10 A.aw (.lst ((e.wo ++ [w0]).map V.str))) u [.str "address", .str "value"] := seqT_upd hs10 B10.b.hw
      have h311 : (upd H10 A.aw (.lst ((e.wo ++ [w0]).map V.str))) ps = some (.dK kv3) := by rw [upd_ne nwp]; exact h310'
      have hb11 : DGet (upd H10 A.aw (.lst ((e.wo ++ [w0]).map V.str))) A.bx (.str "sorts") (some (.ref ps)) := by
        obtain ⟨kv2, h2, e2⟩ := B10.hso
        have nb : A.bx ≠ A.aw := fun z => by rw [z, B10.b.hw] at h2; cases h2
        have z := DGet.k (H := upd H10 A.aw (.lst ((e.wo ++ [w0]).map V.str))) (k := Sum.inr ("sorts" : Str)) (by rw [upd_ne nb]; exact h2)
        rw [e2] at z
        exact z
      have fin : ∀ s : Str, e.act (some act) = e.add w0 s → Act.fr (some act) = [w0] → Q v (upd (upd H10 A.aw (.lst ((e.wo ++ [w0]).map V.str))) ps (.dK (putK kv3 (.inr w0) (.str s)))) := fun s e1 e2 => by
        have B12 := B10.add w0 s h310'
        refine q _ v (some act) fr2 ⟨fun b o h1 h2 h3 h4 h5 h => ?_, ?_⟩ (by rw [e1]; exact B12) (by rw [e2]) ?_ fun b hb => by cases hb; exact oact
        · rw [upd_ne h5, upd_ne h3]
          exact (x09.trans (ExR.of x10)).keep b o h1 h2 h3 h4 h5 h
        · have nps2 : ps ≠ c := fun z => by
            obtain ⟨ns, _, _, _, _, hc, _⟩ := P0
            obtain ⟨kv, hk, _⟩ := B.hps
            rw [z, hc] at hk; cases hk
          exact (x10.pool.upd B9.b.n3.2.1 B9.b.n4.2.1).upd B9.nps nps2
        · exact Dt.mono (fun _ _ z => seqT_updK z h311) _ _ (dv11.updL B10.b.hw)
      rcases kd with ⟨rfl, t, rfl⟩ | ⟨rfl, rfl⟩
      · refine ⟨u, _, _, .str "address", rfl, rfl, hs11, rfl, _, rfl, A.bx, _, rfl, hb11, _, rfl, ps, _, rfl, DPut.k (k := Sum.inr w0) h311 (smallL (by omega)), _, rfl, fin "address" rfl rfl⟩
      · refine ⟨u, _, _, .str "value", rfl, rfl, hs11, rfl, _, rfl, A.bx, _, rfl, hb11, _, rfl, ps, _, rfl, DPut.k (k := Sum.inr w0) h311 (smallL (by omega)), _, rfl, fin "value" rfl rfl⟩
    · rw [decide_eq_false m]
      exact iteF ⟨rfl, last _ y5⟩
  rintro σ H' ⟨rfl, z⟩
  exact z
end
end PK
namespace PK
open PySem L2
/-! rules -/
/-- all but the pool and the addresses X is kept -/
structure ExX (l c : Addr) (X : List Addr) (H H' : Hp) : Prop where
  keep : ∀ b o, b ≠ l → b ∉ X → H b = some o → H' b = some o
  pool : Pool H' l c
/-- a list or a dict -/
def Mut1 (H : Hp) (x : Addr) : Prop := (∃ xs, H x = some (.lst xs)) ∨ ∃ kv, H x = some (.dK kv)
section
variable {K : PySem.W.Frag} {H H' H1 : Hp} {l c : Addr} {X : List Addr}
theorem ExX.refl (P : Pool H l c) : ExX l c X H H := ⟨fun _ _ _ _ h => h, P⟩
theorem ExX.of (x : Ext l c H H') : ExX l c X H H' := ⟨fun b o h _ => x.keep b o h, x.pool⟩
theorem ExX.trans (x : ExX l c X H H1) (y : ExX l c X H1 H') : ExX l c X H H' := ⟨fun b o h1 h2 h => y.keep b o h1 h2 (x.keep b o h1 h2 h), y.pool⟩
theorem ExX.new {p : Addr} {o : HO} (x : ExX l c X H H') (h : H' p = none) : ExX l c X H (upd H' p o) := x.trans (ExX.of ((Ext.refl x.pool).new x.pool h))
theorem ExX.mem {p : Addr} {o : HO} (x : ExX l c X H H') (hp : p ∈ X) (h1 : p ≠ l) (h2 : p ≠ c) : ExX l c X H (upd H' p o) :=
  ⟨fun b u h3 h4 h => by rw [upd_ne fun z => h4 (by rw [z]; exact hp)]; exact x.keep b u h3 h4 h, x.pool.upd h1 h2⟩
/-- what did not stand at first may change -/
theorem ExX.fresh {p : Addr} {o : HO} (x : ExX l c X H H') (P : Pool H l c) (hp : H p = none) : ExX l c X H (upd H' p o) :=
  ⟨fun b u h3 h4 h => by rw [upd_ne (ne_of_none h hp)]; exact x.keep b u h3 h4 h, x.pool.upd (P.ne hp).1 (P.ne hp).2⟩
theorem ExX.seqT (x : ExX l c X H H') (P : Pool H l c) (M : ∀ b ∈ X, Mut1 H b) {a : Addr} {xs : List V} (h : SqT K H a xs) : SqT K H' a xs := by
  have nl : ∀ {o : HO}, H a = some o → (∀ ys, o ≠ .lst ys) → (∀ kv, o ≠ .dK kv) → a ≠ l ∧ a ∉ X := fun e d d2 => by
    refine ⟨fun z => ?_, fun z => ?_⟩
    · subst z
      obtain ⟨ns, i, r, s, hl, _⟩ := P
      rw [hl] at e; cases e
      exact d _ rfl
    · rcases M a z with ⟨xs, h⟩ | ⟨kv, h⟩
      · rw [h] at e; cases e; exact d _ rfl
      · rw [h] at e; cases e; exact d2 _ rfl
  rcases h with (h | ⟨o, h⟩) | h
  · obtain ⟨z1, z2⟩ := nl h (fun _ => HO.noConfusion) (fun _ => HO.noConfusion)
    exact .inl (.inl (x.keep _ _ z1 z2 h))
  · obtain ⟨z1, z2⟩ := nl h (fun _ => HO.noConfusion) (fun _ => HO.noConfusion)
    exact .inl (.inr ⟨o, x.keep _ _ z1 z2 h⟩)
  · exact .inr h
theorem ExX.dt (x : ExX l c X H H') (P : Pool H l c) (M : ∀ b ∈ X, Mut1 H b) {v : V} {d : PyData} (h : Dt K H v d) : Dt K H' v d := Dt.mono (fun _ _ z => x.seqT P M z) _ _ h
theorem ExX.dts (x : ExX l c X H H') (P : Pool H l c) (M : ∀ b ∈ X, Mut1 H b) {v : List V} {d : List PyData} (h : DtAll K H v d) : DtAll K H' v d := DtAll.mono (fun _ _ z => x.seqT P M z) _ _ h
end
/-- a rule as it is drawn -/
structure Rl where
  nm : Str
  pat : Tm
  ds : List Cd
  act : Option Act
  frm : Tm
def Rl.d (r : Rl) : PyData := .tuple [.str r.nm, r.pat.d, .tuple (r.ds.map Cd.d), actD r.act, r.frm.d]
theorem FE.act_k (e : FE) (a : Option Act) : (e.act a).cs = e.cs ∧ (e.act a).ns = e.ns ∧ (e.act a).ds = e.ds := by
  rcases a with _ | ⟨t⟩ | ⟨a, t⟩ | ⟨a, w⟩ | ⟨t, w⟩ <;> exact ⟨rfl, rfl, rfl⟩
/-- what its form is drawn over -/
def Rl.e0 (cs : List Con) (ns : List Str) (r : Rl) : FE := ⟨cs, ns, pwd r.pat, sortOf r.ds (swd cs true r.pat), r.ds⟩
structure Rl.ok (cs : List Con) (ns ms : List Str) (r : Rl) : Prop where
  pat : PatT cs ns r.pat
  fr : ∃ fr' fr'', ms = fr' ++ (pwd r.pat).reverse ∧ fr' = fr'' ++ Act.fr r.act
  cd : CdsOk ns (swd cs true r.pat) r.ds
  act : ∀ a, r.act = some a → a.Ok (r.e0 cs ns)
  frm : Fo ((r.e0 cs ns).act r.act) .form r.frm
  ht : r.frm.ht ≤ 5
theorem swd_sub (cs : List Con) : ∀ (t : Tm) (b : Bool), (swd cs b t).Sublist (pwd t) := by
  have main : ∀ n (t : Tm) (b : Bool), sizeOf t < n → (swd cs b t).Sublist (pwd t) := by
    intro n
    induction n with
    | zero => intro t b h; omega
    | succ n ih =>
      intro t b h
      cases t with
      | var s =>
        unfold swd pwd
        cases b <;> simp
      | int n => unfold swd; exact List.nil_sublist _
      | name n => unfold swd; exact List.nil_sublist _
      | addr n => unfold swd; exact List.nil_sublist _
      | map n => unfold swd; exact List.nil_sublist _
      | form _ _ => unfold swd; exact List.nil_sublist _
      | node c ts =>
        rw [swd_node, pwd_node]
        have kid : ∀ k ∈ ts, sizeOf k < n := fun k hk => by have := Tm.kid_lt (t := .node c ts) hk; omega
        have : ∀ (l : List Tm) (i : Nat), (∀ k ∈ l, k ∈ ts) → ((l.zipIdx i).map fun q => swd cs (b && inPl cs c q.2) q.1).flatten.Sublist (l.map pwd).flatten := fun l => by
          induction l with
          | nil => exact fun _ _ => List.Sublist.refl _
          | cons a l il =>
            intro i hl
            rw [List.zipIdx_cons, List.map_cons, List.map_cons, List.flatten_cons, List.flatten_cons]
            exact (ih a _ (kid a (hl a List.mem_cons_self))).append (il _ fun k hk => hl k (List.mem_cons_of_mem _ hk))
        exact this ts 0 fun _ h => h
  exact fun t b => main _ t b (Nat.lt_succ_self _)
/-- the box between two rules -/
structure Box0 (K : PySem.W.Frag) (H : Hp) (l bx ar an : Addr) (cs : List Con) (ns : List Str) (m : Nat) : Prop where
  nr : ar ≠ l
  hb : ∃ kvs, H bx = some (.dK kvs) ∧ valV kvs (.inr "rows") = some (.ref ar) ∧ valV kvs (.inr "names") = some (.ref an) ∧ kvs.length ≤ m
  rv : ∃ rv, H ar = some (.lst rv) ∧ DtAll K H rv (cs.map Con.d)
  nm : Nm H l an ns
def spRule (K : PySem.W.Frag) : Sp := fun vs H Q _ => ∃ (l c bx ar an pm : Addr) (cs : List Con) (ns ms : List Str) (name : Str) (m : Nat), vs = [.ref l, .ref bx, .str name, .ref pm] ∧ Pool H l c ∧ Box0 K H l bx ar an cs ns m ∧ m ≤ 1000 ∧ CsOk cs ∧ ns.Nodup ∧ pm ≠ l ∧ H pm = some (.lst (ms.map V.str)) ∧ ms.length ≤ 20 ∧ (∀ x ∈ ms, Wd x) ∧
  ∀ (H' : Hp) (v : V) (r : Rl), ExX l c [bx] H H' → Box0 K H' l bx ar an cs ns (m + 5) → Dt K H' v r.d → r.ok cs ns ms → r.nm = name → Q v H'
theorem Bx.setK {K : PySem.W.Frag} {H : Hp} {l c : Addr} {A : BxA} {cs : List Con} {ns fr wo su : List Str} (B : Bx K H l c A cs ns fr wo su) {kvs : List (Key × V)} (hk : H A.bx = some (.dK kvs)) {k : Str} (ne : k ∉ (["rows", "names", "free", "words", "sure"] : List Str)) (v : V) : Bx K (upd H A.bx (.dK (putK kvs (.inr k) v))) l c A cs ns fr wo su := by
  obtain ⟨kv, hb, e1, e2, e3, e4, e5⟩ := B.hb
  rw [hk] at hb; cases hb
  obtain ⟨rv, hr, dr⟩ := B.rv
  have nl : ∀ {b : Addr} {xs : List V}, H b = some (.lst xs) → b ≠ A.bx := fun h z => by rw [z, hk] at h; cases h
  have pv : ∀ {x : Str} {a : V}, x ∈ (["rows", "names", "free", "words", "sure"] : List Str) → valV kvs (.inr x) = some a → valV (putK kvs (.inr k) v) (.inr x) = some a := fun {x a} hx h => by
    rw [valV_put]
    show (if (Sum.inr x : Key) = .inr k then some v else valV kvs (.inr x)) = _
    rw [if_neg fun z => ne (by cases z; exact hx)]
    exact h
  exact ⟨B.n1, B.n2, B.n4, B.n3, ⟨_, upd_same, pv (by decide) e1, pv (by decide) e2, pv (by decide) e3, pv (by decide) e4, pv (by decide) e5⟩, ⟨rv, by rw [upd_ne (nl hr)]; exact hr, DtAll.mono (fun _ _ z => seqT_updK z hk) _ _ dr⟩, ⟨by rw [upd_ne (nl B.nm.at_)]; exact B.nm.at_, B.nm.ne, B.nm.ne0, B.nm.le, B.nm.wd⟩, by rw [upd_ne (nl B.hf)]; exact B.hf, by rw [upd_ne (nl B.hw)]; exact B.hw, by rw [upd_ne (nl B.hs)]; exact B.hs⟩
theorem Bx2.exX {K : PySem.W.Frag} {H H' : Hp} {l c : Addr} {X : List Addr} {A : BxA} {cs : List Con} {ns fr wo su : List Str} {ds : List Cd} {pc : Addr} (B : Bx2 K H l c A cs ns fr wo su ds pc) (P : Pool H l c) (x : ExX l c X H H') (M : ∀ b ∈ X, ∃ kv, H b = some (.dK kv)) (nb : A.bx ∉ X) : Bx2 K H' l c A cs ns fr wo su ds pc := by
  obtain ⟨kv1, h1, e1⟩ := B.hc
  obtain ⟨kv, hb, e⟩ := B.hb
  obtain ⟨rv, hr, dr⟩ := B.rv
  have M2 : ∀ b ∈ X, Mut1 H b := fun b hb => .inr (M b hb)
  have nx : ∀ {b : Addr} {xs : List V}, H b = some (.lst xs) → b ∉ X := fun h z => by obtain ⟨kv, h2⟩ := M _ z; rw [h2] at h; cases h
  have nl : A.bx ≠ l := fun z => by
    obtain ⟨ns, i, r, s, hl, _⟩ := P
    rw [z, hl] at hb; cases hb
  exact ⟨⟨B.n1, B.n2, B.n4, B.n3, ⟨kv, x.keep _ _ nl nb hb, e⟩, ⟨rv, x.keep _ _ B.n1.1 (nx hr) hr, x.dts P M2 dr⟩, ⟨x.keep _ _ B.nm.ne (nx B.nm.at_) B.nm.at_, B.nm.ne, B.nm.ne0, B.nm.le, B.nm.wd⟩, x.keep _ _ B.n3.1 (nx B.hf) B.hf, x.keep _ _ B.n3.2.1 (nx B.hw) B.hw, x.keep _ _ B.n3.2.2.1 (nx B.hs) B.hs⟩, ⟨kv1, x.keep _ _ nl nb h1, e1⟩, x.dt P M2 B.dc⟩
section
variable {P : Program} {w : World} {K : PySem.W.Frag} {mg : Str → Option Value} {base : Heap}
theorem ok_rule {f : Addr} {fd : FuncData} (F : Fun K "_law_rule" "_law_rule" s_law_rule f fd) (T : Txt K mg) (C_law_pattern : C8.Cal P w K mg base 8 "_law_pattern" (spPat K) []) (C_law_conditions : C8.Cal P w K mg base 7 "_law_conditions" (spConds K) []) (C_law_sort : C8.Cal P w K mg base 2 "_law_sort" (spSort K) []) (C_law_action : C8.Cal P w K mg base 11 "_law_action" (spAct K) []) (C_law_form : C8.Cal P w K mg base 19 "_law_form" (spFo .form 0 K 4) []) : FnOk P w K mg base CX0 20 f fd ["pool", "box", "name", "metas"] (spRule K) := by
  refine F.ok sc_law_rule (fun vs H Q E h => ?_) (fun cdv AA outer s H vs Q E hr h => ?_)
  · obtain ⟨_, _, _, _, _, _, _, _, _, _, _, rfl, _⟩ := h
    rfl
  obtain ⟨l, c, bx, ar, an, pm, cs, ns, ms, name, m, rfl, P0, B0, lm, ck, nd, npm, hpm, lms, wms, q⟩ := h
  refine ⟨_, (pss_cons (ps_dput (hu_of hr) (pv 1) pe_str (pe_callTy call_list_of (by rfl) T.z_list (by decide +kernel) (pa_cons (pv 3) pa_nil)) rfl)
    (pss_cons (ps_dput (hu_of hr) (pv 1) pe_str (pe_lst pa_nil) rfl)
    (pss_cons (ps_dput (hu_of hr) (pv 1) pe_str (pe_lst pa_nil) rfl)
    (pss_cons (ps_dput (hu_of hr) (pv 1) pe_str pe_dnewK rfl)
    (pss_cons (ps_set (i := 4) sc_law_rule.nd rfl (Or.inl rfl) (C8.pe_c C_law_pattern hr (by decide) rfl (pa_cons (pv 0) (pa_cons (pv 1) pa_nil))))
    (pss_cons (ps_dput (hu_of hr) (pv 1) pe_str (C8.pe_c C_law_conditions hr (by decide) rfl (pa_cons (pv 0) (pa_cons (pv 1) pa_nil))) rfl)
    (pss_cons (ps_for PassesOwn.never rfl (pi_list (pe_dget (hu_of hr) (pv 1) pe_str (fun _ _ => rfl))) (pg_name (i := 5) sc_law_rule.nd rfl (Or.inl rfl)) (pss_one (ps_dput (hu_of hr) (pe_dget (hu_of hr) (pv 1) pe_str (fun _ _ => rfl)) (pv 5) (C8.pe_c C_law_sort hr (by decide) rfl (pa_cons (pv 1) (pa_cons (pv 5) pa_nil))) rfl)))
    (pss_cons (ps_set (i := 6) sc_law_rule.nd rfl (Or.inl rfl) (C8.pe_c C_law_action hr (by decide) rfl (pa_cons (pv 0) (pa_cons (pv 1) pa_nil))))
    (pss_one (ps_ret (pe_tup (pa_cons (pv 2) (pa_cons (pv 4) (pa_cons (pe_dget (hu_of hr) (pv 1) pe_str (fun _ _ => rfl)) (pa_cons (pv 6) (pa_cons (C8.pe_c C_law_form hr (by decide) rfl (pa_cons (pv 0) (pa_cons (pv 1) (pa_cons pe_int pa_nil)))) pa_nil)))))))))))))))), ?_⟩
  obtain ⟨kv0, hb0, vr0, vn0, lk0⟩ := B0.hb
  obtain ⟨rv0, hr0, dr0⟩ := B0.rv
  have vp : ∀ {kv : List (Key × V)} {k x : Str} {v a : V}, k ≠ x → valV kv (.inr x) = some a → valV (putK kv (.inr k) v) (.inr x) = some a := fun {kv k x v a} ne h => by
    rw [valV_put]
    show (if (Sum.inr x : Key) = .inr k then some v else valV kv (.inr x)) = _
    rw [if_neg fun z => ne (by cases z; rfl)]
    exact h
  have vs : ∀ {kv : List (Key × V)} {k : Str} {v : V}, valV (putK kv (.inr k) v) (.inr k) = some v := fun {kv k v} => by
    rw [valV_put]
    show (if (Sum.inr k : Key) = .inr k then some v else valV kv (.inr k)) = _
    rw [if_pos rfl]
  have lp : ∀ (kv : List (Key × V)) (k : Str) (v : V), (putK kv (.inr k) v).length ≤ kv.length + 1 := fun kv k v => by
    have h2 := length_putK kv (.inr k : Key) v
    omega
  have nbl : bx ≠ l ∧ bx ≠ c := by
    obtain ⟨_, _, _, _, hl, hc, _⟩ := P0
    exact ⟨fun z => by rw [z, hl] at hb0; (cases hb0), fun z => by rw [z, hc] at hb0; (cases hb0)⟩
  have mb : bx ∈ [bx] := List.mem_singleton.mpr rfl
  -- free
  refine ⟨_, rfl, pm, _, rfl, .inl (SqL.of hpm), fun af haf => ⟨_, rfl, bx, _, rfl, DPut.k (k := Sum.inr "free") (by rw [upd_ne (ne_of_none hb0 haf)]; exact hb0) (smallL (by omega)), ?_⟩⟩
  have x1 := ((ExX.refl (X := [bx]) P0).new (o := .lst (ms.map V.str)) haf).mem (o := .dK (putK kv0 (.inr "free") (.ref af))) mb nbl.1 nbl.2
  have nbf : af ≠ bx := (ne_of_none hb0 haf).symm
  have hf1 : (upd (upd H af (.lst (ms.map V.str))) bx (.dK (putK kv0 (.inr "free") (.ref af)))) af = some (.lst (ms.map V.str)) := by rw [upd_ne nbf, upd_same]
  have hb1 : (upd (upd H af (.lst (ms.map V.str))) bx (.dK (putK kv0 (.inr "free") (.ref af)))) bx = some (.dK (putK kv0 (.inr "free") (.ref af))) := upd_same
  have lk1 := lp kv0 "free" (.ref af)
  generalize upd (upd H af (HO.lst (ms.map V.str))) bx (HO.dK (putK kv0 (Sum.inr "free") (V.ref af))) = H1 at *
  -- words
  refine ⟨Nat.zero_le _, fun aw haw => ⟨_, rfl, bx, _, rfl, DPut.k (k := Sum.inr "words") (by rw [upd_ne (ne_of_none hb1 haw)]; exact hb1) (smallL (by omega)), ?_⟩⟩
  have x2 := (x1.new (o := .lst []) haw).mem (o := .dK (putK (putK kv0 (.inr "free") (.ref af)) (.inr "words") (.ref aw))) mb nbl.1 nbl.2
  have nbw : aw ≠ bx := (ne_of_none hb1 haw).symm
  have nfw : af ≠ aw := ne_of_none hf1 haw
  have hf2 : (upd (upd H1 aw (.lst [])) bx (.dK (putK (putK kv0 (.inr "free") (.ref af)) (.inr "words") (.ref aw)))) af = some (.lst (ms.map V.str)) := by rw [upd_ne nbf, upd_ne nfw]; exact hf1
  have hw2 : (upd (upd H1 aw (.lst [])) bx (.dK (putK (putK kv0 (.inr "free") (.ref af)) (.inr "words") (.ref aw)))) aw = some (.lst []) := by rw [upd_ne nbw, upd_same]
  have hb2 : (upd (upd H1 aw (.lst [])) bx (.dK (putK (putK kv0 (.inr "free") (.ref af)) (.inr "words") (.ref aw)))) bx = some (.dK (putK (putK kv0 (.inr "free") (.ref af)) (.inr "words") (.ref aw))) := upd_same
  have lk2 := lp (putK kv0 (.inr "free") (.ref af)) "words" (.ref aw)
  have fw : H aw = none := by
    cases e : H aw with
    | none => rfl
    | some o => rw [x1.keep _ _ (x1.pool.ne haw).1 (fun z => nbw (List.mem_singleton.mp z)) e] at haw; cases haw
  generalize upd (upd H1 aw (HO.lst [])) bx (HO.dK (putK (putK kv0 (Sum.inr "free") (V.ref af)) (Sum.inr "words") (V.ref aw))) = H2 at *
  -- sure
  refine ⟨Nat.zero_le _, fun su hsu => ⟨_, rfl, bx, _, rfl, DPut.k (k := Sum.inr "sure") (by rw [upd_ne (ne_of_none hb2 hsu)]; exact hb2) (smallL (by omega)), ?_⟩⟩
  generalize ek2 : putK (putK kv0 (Sum.inr "free") (V.ref af)) (Sum.inr "words") (V.ref aw) = kv2 at *
  have x3 := (x2.new (o := .lst []) hsu).mem (o := .dK (putK kv2 (.inr "sure") (.ref su))) mb nbl.1 nbl.2
  have nbs : su ≠ bx := (ne_of_none hb2 hsu).symm
  have nfs : af ≠ su := ne_of_none hf2 hsu
  have nws : aw ≠ su := ne_of_none hw2 hsu
  have hf3 : (upd (upd H2 su (.lst [])) bx (.dK (putK kv2 (.inr "sure") (.ref su)))) af = some (.lst (ms.map V.str)) := by rw [upd_ne nbf, upd_ne nfs]; exact hf2
  have hw3 : (upd (upd H2 su (.lst [])) bx (.dK (putK kv2 (.inr "sure") (.ref su)))) aw = some (.lst []) := by rw [upd_ne nbw, upd_ne nws]; exact hw2
  have hs3 : (upd (upd H2 su (.lst [])) bx (.dK (putK kv2 (.inr "sure") (.ref su)))) su = some (.lst []) := by rw [upd_ne nbs, upd_same]
  have hb3 : (upd (upd H2 su (.lst [])) bx (.dK (putK kv2 (.inr "sure") (.ref su)))) bx = some (.dK (putK kv2 (.inr "sure") (.ref su))) := upd_same
  have lk3 := lp kv2 "sure" (.ref su)
  have fs : H su = none := by
    cases e : H su with
    | none => rfl
    | some o => rw [x2.keep _ _ (x2.pool.ne hsu).1 (fun z => nbs (List.mem_singleton.mp z)) e] at hsu; cases hsu
  generalize upd (upd H2 su (HO.lst [])) bx (HO.dK (putK kv2 (Sum.inr "sure") (V.ref su))) = H3 at *
  -- sorts
  refine fun ps hps => ⟨_, rfl, bx, _, rfl, DPut.k (k := Sum.inr "sorts") (by rw [upd_ne (ne_of_none hb3 hps)]; exact hb3) (smallL (by omega)), ?_⟩
  generalize ek3 : putK kv2 (Sum.inr "sure") (V.ref su) = kv3 at *
  have x4 := (x3.new (o := .dK []) hps).mem (o := .dK (putK kv3 (.inr "sorts") (.ref ps))) mb nbl.1 nbl.2
  have nbp : ps ≠ bx := (ne_of_none hb3 hps).symm
  have nfp : af ≠ ps := ne_of_none hf3 hps
  have nwp : aw ≠ ps := ne_of_none hw3 hps
  have nsp : su ≠ ps := ne_of_none hs3 hps
  have hf4 : (upd (upd H3 ps (.dK [])) bx (.dK (putK kv3 (.inr "sorts") (.ref ps)))) af = some (.lst (ms.map V.str)) := by rw [upd_ne nbf, upd_ne nfp]; exact hf3
  have hw4 : (upd (upd H3 ps (.dK [])) bx (.dK (putK kv3 (.inr "sorts") (.ref ps)))) aw = some (.lst []) := by rw [upd_ne nbw, upd_ne nwp]; exact hw3
  have hs4 : (upd (upd H3 ps (.dK [])) bx (.dK (putK kv3 (.inr "sorts") (.ref ps)))) su = some (.lst []) := by rw [upd_ne nbs, upd_ne nsp]; exact hs3
  have hp4 : (upd (upd H3 ps (.dK [])) bx (.dK (putK kv3 (.inr "sorts") (.ref ps)))) ps = some (.dK []) := by rw [upd_ne nbp, upd_same]
  have hb4 : (upd (upd H3 ps (.dK [])) bx (.dK (putK kv3 (.inr "sorts") (.ref ps)))) bx = some (.dK (putK kv3 (.inr "sorts") (.ref ps))) := upd_same
  have lk4 := lp kv3 "sorts" (.ref ps)
  have fp : H ps = none := by
    cases e : H ps with
    | none => rfl
    | some o => rw [x3.keep _ _ (x3.pool.ne hps).1 (fun z => nbp (List.mem_singleton.mp z)) e] at hps; cases hps
  have g1 : valV kv2 (.inr "rows") = some (.ref ar) ∧ valV kv2 (.inr "names") = some (.ref an) ∧ valV kv2 (.inr "free") = some (.ref af) ∧ valV kv2 (.inr "words") = some (.ref aw) := by
    rw [← ek2]
    exact ⟨vp (by decide) (vp (by decide) vr0), vp (by decide) (vp (by decide) vn0), vp (by decide) vs, vs⟩
  have g2 : ∀ {k : Str} {v : V}, k ∉ (["rows", "names", "free", "words", "sure"] : List Str) → valV (putK kv3 (.inr k) v) (.inr "rows") = some (.ref ar) ∧ valV (putK kv3 (.inr k) v) (.inr "names") = some (.ref an) ∧ valV (putK kv3 (.inr k) v) (.inr "free") = some (.ref af) ∧ valV (putK kv3 (.inr k) v) (.inr "words") = some (.ref aw) ∧ valV (putK kv3 (.inr k) v) (.inr "sure") = some (.ref su) := fun {k v} hk => by
    have n : ∀ x ∈ (["rows", "names", "free", "words", "sure"] : List Str), k ≠ x := fun x hx e => hk (by rw [e]; exact hx)
    rw [← ek3]
    exact ⟨vp (n _ (by decide)) (vp (by decide) g1.1), vp (n _ (by decide)) (vp (by decide) g1.2.1), vp (n _ (by decide)) (vp (by decide) g1.2.2.1), vp (n _ (by decide)) (vp (by decide) g1.2.2.2), vp (n _ (by decide)) vs⟩
  generalize upd (upd H3 ps (HO.dK [])) bx (HO.dK (putK kv3 (Sum.inr "sorts") (V.ref ps))) = H4 at *
  have M0 : ∀ b ∈ [bx], Mut1 H b := fun b hb => by rw [List.mem_singleton.mp hb]; exact .inr ⟨_, hb0⟩
  have nrb : ar ∉ [bx] := fun z => by rw [List.mem_singleton.mp z, hb0] at hr0; cases hr0
  have nnb : an ∉ [bx] := fun z => by
    have h := B0.nm.at_
    rw [List.mem_singleton.mp z, hb0] at h; cases h
  have nfu : ∀ {b : Addr} {o : HO}, H b = some o → b ≠ af ∧ b ≠ aw ∧ b ≠ su ∧ b ≠ ps := fun h => ⟨ne_of_none h haf, ne_of_none h fw, ne_of_none h fs, ne_of_none h fp⟩
  have BX : Bx K H4 l c ⟨bx, ar, an, af, aw, su⟩ cs ns ms [] [] := ⟨⟨B0.nr, (nfu hr0).1, (nfu hr0).2.1, (nfu hr0).2.2.1⟩, ⟨(nfu B0.nm.at_).1, (nfu B0.nm.at_).2.1, (nfu B0.nm.at_).2.2.1⟩, ⟨(P0.ne haf).2, (P0.ne fw).2, (P0.ne fs).2⟩, ⟨(P0.ne haf).1, (P0.ne fw).1, (P0.ne fs).1, nfw, nfs, nws⟩, ⟨_, hb4, g2 (by decide)⟩, ⟨rv0, x4.keep _ _ B0.nr nrb hr0, x4.dts P0 M0 dr0⟩, ⟨x4.keep _ _ B0.nm.ne nnb B0.nm.at_, B0.nm.ne, B0.nm.ne0, B0.nm.le, B0.nm.wd⟩, hf4, hw4, hs4⟩
  -- the pattern
  refine ⟨_, rfl, _, rfl, l, c, ⟨bx, ar, an, af, aw, su⟩, cs, ns, ms, rfl, x4.pool, BX, ck, lms, fun H5 v5 t fr' xB B5 efr d5 pt => ?_⟩
  have hb5 := xB.keep _ _ nbl.1 nbf.symm nbw.symm nbs.symm hb4
  have hp5 := xB.keep _ _ (P0.ne fp).1 nfp.symm nwp.symm nsp.symm hp4
  have lw : (pwd t).length ≤ 20 := by have := congrArg List.length efr; rw [List.length_append, List.length_reverse] at this; omega
  have lsu : (swd cs true t).length ≤ 20 := Nat.le_trans (swd_sub cs t true).length_le lw
  have wwd : ∀ x ∈ pwd t, Wd x := fun x hx => wms x (by rw [efr]; exact List.mem_append.mpr (.inr (List.mem_reverse.mpr hx)))
  have wsd : ∀ x ∈ swd cs true t, Wd x := fun x hx => wwd x ((swd_sub cs t true).subset hx)
  -- the conditions
  refine ⟨_, rfl, _, rfl, l, c, ⟨bx, ar, an, af, aw, su⟩, cs, ns, fr', pwd t, swd cs true t, rfl, xB.pool, B5, by omega, fun v6 ds H6 x6 dds okd emp l3 => ?_⟩
  obtain ⟨pc, ys, rfl, hsc, dys⟩ := Dt.tn dds
  have hb6 := x6.keep _ _ nbl.1 hb5
  have hp6 := x6.keep _ _ (P0.ne fp).1 hp5
  have d6 := d5.ext xB.pool x6
  refine ⟨_, rfl, bx, _, rfl, DPut.k (k := Sum.inr "conditions") hb6 (smallL (by omega)), ?_⟩
  have B6 := B5.ext xB.pool x6
  have lk5 := lp (putK kv3 (.inr "sorts") (.ref ps)) "conditions" (.ref pc)
  have B7 := B6.setK hb6 (k := "conditions") (by decide) (.ref pc)
  have B27 : Bx2 K (upd H6 bx (.dK (putK (putK kv3 (.inr "sorts") (.ref ps)) (.inr "conditions") (.ref pc)))) l c ⟨bx, ar, an, af, aw, su⟩ cs ns fr' (pwd t) (swd cs true t) ds pc := ⟨B7, ⟨_, upd_same, vs⟩, Dt.mono (fun _ _ z => seqT_updK z hb6) _ _ dds⟩
  have hso7 : ∃ kvs, (upd H6 bx (.dK (putK (putK kv3 (.inr "sorts") (.ref ps)) (.inr "conditions") (.ref pc)))) bx = some (.dK kvs) ∧ valV kvs (.inr "sorts") = some (.ref ps) ∧ kvs.length ≤ m + 5 := ⟨_, upd_same, vp (by decide) vs, by omega⟩
  have hp7 : (upd H6 bx (.dK (putK (putK kv3 (.inr "sorts") (.ref ps)) (.inr "conditions") (.ref pc)))) ps = some (.dK []) := by rw [upd_ne nbp]; exact hp6
  have d7 : Dt K (upd H6 bx (.dK (putK (putK kv3 (.inr "sorts") (.ref ps)) (.inr "conditions") (.ref pc)))) v5 t.d := Dt.mono (fun _ _ z => seqT_updK z hb6) _ _ d6
  have x7 : ExX l c [bx] H (upd H6 bx (.dK (putK (putK kv3 (.inr "sorts") (.ref ps)) (.inr "conditions") (.ref pc)))) := ExX.mem ⟨fun b o h1 h2 h => by
    have n := nfu h
    exact x6.keep _ _ h1 (xB.keep _ _ h1 n.1 n.2.1 n.2.2.1 (x4.keep _ _ h1 h2 h)), x6.pool⟩ mb nbl.1 nbl.2
  generalize upd H6 bx (HO.dK (putK (putK kv3 (Sum.inr "sorts") (V.ref ps)) (Sum.inr "conditions") (V.ref pc))) = H7 at *
  have CO : CdsOk ns (swd cs true t) ds := ⟨okd, l3⟩
  have P7 := x7.pool
  -- the sorts
  refine ⟨_, rfl, bx, _, rfl, B27.g.2.2.2.1, aw, rfl, ⟨_, SqL.of B27.hw⟩, for_it (walk_list (K := K) (xs := (pwd t).map V.str)) (fun i σ H' => ∃ (o5 : Option V) (kv : List (Key × V)), σ = [some (.ref l), some (.ref bx), some (.str name), some (.ref pm), some v5, o5, none] ∧ ExX l c [ps] H7 H' ∧ H' ps = some (.dK kv) ∧ kv.length ≤ i ∧ ∀ w ∈ (pwd t).take i, valV kv (.inr w) = some (.str (sortOf ds (swd cs true t) w)))
    ⟨_, [], rfl, ExX.refl P7, hp7, Nat.le_refl _, fun w hw => by simp at hw⟩ (fun i σ H' _ h => ?_) ?_ ?_⟩
  · obtain ⟨_, _, _, y, _⟩ := h
    exact SqL.of (y.keep _ _ (P0.ne fw).1 (fun z => nwp (List.mem_singleton.mp z)) B27.hw)
  · rintro i x σ H8 H8' hi ⟨o5, kv, rfl, x8, hp8, lkv, gv⟩ ⟨rfl, gx⟩
    rw [List.getElem?_map] at gx
    cases e0 : (pwd t)[i]? with
    | none => rw [e0] at gx; cases gx
    | some w0 =>
    rw [e0] at gx
    cases gx
    have mw := List.mem_of_getElem? e0
    have B8 := B27.exX P7 x8 (fun b hb => by rw [List.mem_singleton.mp hb]; exact ⟨_, hp7⟩) (fun z => nbp (List.mem_singleton.mp z).symm)
    refine ⟨_, rfl, _, rfl, l, c, ⟨bx, ar, an, af, aw, su⟩, cs, ns, fr', pwd t, swd cs true t, ds, pc, w0, rfl, B8, CO, wsd, wwd _ mw, by omega, fun H9 s9 => ?_⟩
    obtain ⟨kv7, hk7, e7, _⟩ := hso7
    have gs : DGet H9 bx (.str "sorts") (some (.ref ps)) := by
      have z := DGet.k (H := H9) (k := Sum.inr ("sorts" : Str)) (s9 _ _ (x8.keep _ _ nbl.1 (fun z => nbp (List.mem_singleton.mp z).symm) hk7))
      rw [e7] at z; exact z
    have li : i < 20 := by have := (List.getElem?_eq_some_iff.mp e0).1; omega
    refine ⟨_, rfl, bx, _, rfl, gs, _, rfl, ps, _, rfl, DPut.k (k := Sum.inr w0) (s9 _ _ hp8) (smallL (by omega)), ?_⟩
    refine ⟨_, _, rfl, (x8.trans (ExX.of ((Ext.refl x8.pool).same s9))).mem (List.mem_singleton.mpr rfl) (P0.ne fp).1 (P0.ne fp).2, upd_same, ?_, fun w hw => ?_⟩
    · have := lp kv w0 (.str (sortOf ds (swd cs true t) w0)); omega
    · rw [take_snoc e0] at hw
      by_cases ew : w = w0
      · rw [ew]; exact vs
      · exact vp (fun z => ew z.symm) (gv w ((List.mem_append.mp hw).resolve_right fun z => ew (List.mem_singleton.mp z)))
  rintro σ H8 ⟨o5, kv, rfl, x8, hp8, lkv, gv⟩
  rw [List.length_map] at lkv gv
  rw [List.take_length] at gv
  have B8 := B27.exX P7 x8 (fun b hb => by rw [List.mem_singleton.mp hb]; exact ⟨_, hp7⟩) (fun z => nbp (List.mem_singleton.mp z).symm)
  have M7 : ∀ b ∈ [ps], Mut1 H7 b := fun b hb => by rw [List.mem_singleton.mp hb]; exact .inr ⟨_, hp7⟩
  have hb8 : ∃ kvs, H8 bx = some (.dK kvs) ∧ valV kvs (.inr "sorts") = some (.ref ps) ∧ kvs.length ≤ m + 5 := by
    obtain ⟨kv7, hk7, e7, l7⟩ := hso7
    exact ⟨kv7, x8.keep _ _ nbl.1 (fun z => nbp (List.mem_singleton.mp z).symm) hk7, e7, l7⟩
  have B38 : Bx3 K H8 l c ⟨bx, ar, an, af, aw, su⟩ ⟨cs, ns, pwd t, sortOf ds (swd cs true t), ds⟩ fr' (swd cs true t) pc ps := ⟨B8, (P0.ne fp).1, by obtain ⟨a, b, c, _⟩ := hb8; exact ⟨a, b, c⟩, ⟨kv, hp8, gv⟩, nbp, fun kvs hk => by rw [hp8] at hk; cases hk; exact lkv⟩
  have FO : FEo ⟨cs, ns, pwd t, sortOf ds (swd cs true t), ds⟩ (swd cs true t) := ⟨ck, Nat.le_trans lw (by decide), nd, CO, fun x hx => (swd_sub cs t true).subset hx⟩
  have d8 := x8.dt P7 M7 d7
  -- the action
  refine ⟨_, rfl, _, rfl, l, c, ⟨bx, ar, an, af, aw, su⟩, ⟨cs, ns, pwd t, sortOf ds (swd cs true t), ds⟩, fr', swd cs true t, pc, ps, rfl, x8.pool, B38, FO, by have := congrArg List.length efr; rw [List.length_append] at this; omega, fun H9 v9 act fr'' xR B9 efr2 d9 oka => ?_⟩
  have FO9 : FEo ((⟨cs, ns, pwd t, sortOf ds (swd cs true t), ds⟩ : FE).act act) (swd cs true t) := by
    have add : ∀ w s : Str, FEo ((⟨cs, ns, pwd t, sortOf ds (swd cs true t), ds⟩ : FE).add w s) (swd cs true t) := fun w s => ⟨ck, by show (pwd t ++ [w]).length ≤ 1000; rw [List.length_append]; show _ + 1 ≤ 1000; omega, nd, CO, fun x hx => List.mem_append.mpr (.inl (FO.sub x hx))⟩
    cases act with
    | none => exact FO
    | some a => cases a with
      | put t => exact FO
      | write a t => exact FO
      | read a w => exact add _ _
      | new t w => exact add _ _
  have dA9 := xR.dt x8.pool B38 d8
  refine ⟨_, rfl, _, rfl, _, rfl, bx, _, rfl, B9.g.1, _, rfl, _, rfl, _, rfl, l, c, ⟨bx, ar, an, af, aw, su⟩, (⟨cs, ns, pwd t, sortOf ds (swd cs true t), ds⟩ : FE).act act, fr'', swd cs true t, pc, ps, 3, rfl, xR.pool, B9, FO9, by decide, by decide, fun H10 v10 t10 x10 d10 fo10 ht10 => ⟨small (by show 5 ≤ _; decide), fun tp htp => ?_⟩⟩
  have x11 := x10.new (o := .tup [.str name, v5, .ref pc, v9, v10]) xR.pool htp
  have x1011 : Ext l c H10 (upd H10 tp (.tup [.str name, v5, .ref pc, v9, v10])) := (Ext.refl x10.pool).new x10.pool htp
  have B11 := B9.ext xR.pool x11
  have hs11 : SqT K (upd H10 tp (.tup [.str name, v5, .ref pc, v9, v10])) tp [.str name, v5, .ref pc, v9, v10] := SqT.of upd_same
  have dP := dA9.ext xR.pool x11
  obtain ⟨ec, en, ed⟩ := FE.act_k ⟨cs, ns, pwd t, sortOf ds (swd cs true t), ds⟩ act
  have dC := B9.b.dc.ext xR.pool x11
  rw [ed] at dC
  have rv11 := B11.b.rv
  rw [ec] at rv11
  have nm11 := B11.b.nm
  rw [en] at nm11
  have dA := d9.ext xR.pool x11
  have dF := d10.ext x10.pool x1011
  generalize upd H10 tp (HO.tup [V.str name, v5, V.ref pc, v9, v10]) = H11 at *
  have kp : ∀ (b : Addr) (o : HO), b ≠ l → b ≠ af → b ≠ aw → b ≠ su → b ≠ ps → H8 b = some o → H11 b = some o := fun b o h1 h2 h3 h4 h5 h => x11.keep _ _ h1 (xR.keep _ _ h1 h2 h3 h4 h5 h)
  refine q H11 (.ref tp) ⟨name, t, ds, act, t10⟩ ⟨fun b o h1 h2 h => ?_, x11.pool⟩ ⟨B0.nr, ?_, rv11, nm11⟩ (Dt.tup hs11 (.cons (.str _) (.cons dP (.cons dC (.cons dA (.cons dF .nil)))))) ⟨pt, ⟨fr', fr'', efr, efr2⟩, CO, oka, fo10, ht10⟩ rfl
  · have n := nfu h
    exact kp _ _ h1 n.1 n.2.1 n.2.2.1 n.2.2.2 (x8.keep _ _ h1 (fun z => n.2.2.2 (List.mem_singleton.mp z)) (x7.keep _ _ h1 h2 h))
  · obtain ⟨kv8, hk8, _, l8⟩ := hb8
    obtain ⟨kvb, hkb, e1, e2, _⟩ := B11.b.hb
    have z := kp _ _ nbl.1 nbf.symm nbw.symm nbs.symm nbp.symm hk8
    have z2 := hkb.symm.trans z
    cases z2
    exact ⟨_, hkb, e1, e2, l8⟩
end
end PK
namespace PK
open PySem L2
/-! languages -/
/-- a language as a dict -/
structure LgAt (K : PySem.W.Frag) (H : Hp) (p an : Addr) (cs : List Con) (rd : List PyData) : Prop where
  mk :: (out : ∃ (kvs kv : List (Key × V)) (po pr pu : Addr), H p = some (.dK kvs) ∧ valV kvs (.inr "rows") = some (.ref pr) ∧ valV kvs (.inr "of") = some (.ref po) ∧ valV kvs (.inr "rules") = some (.ref pu) ∧ valV kvs (.inr "names") = some (.ref an) ∧
    Dt K H (.ref pr) (.tuple (cs.map Con.d)) ∧ Dt K H (.ref pu) (.tuple rd) ∧ H po = some (.dK kv) ∧ ∀ x ∈ cs, ∃ v, valV kv (.inr x.nm) = some v ∧ Dt K H v x.d)
def spOwn (K : PySem.W.Frag) : Sp := fun vs H Q _ => ∃ (pr pu an : Addr) (rv ru : List V) (cs : List Con) (rd : List PyData), vs = [.ref pr, .ref pu, .ref an] ∧ H pr = some (.lst rv) ∧ DtAll K H rv (cs.map Con.d) ∧ H pu = some (.lst ru) ∧ DtAll K H ru rd ∧ cs.length ≤ 1000 ∧ rd.length ≤ 1000 ∧ (cs.map Con.nm).Nodup ∧
  ∀ (H' : Hp) (p : Addr), Same H H' → H p = none → LgAt K H' p an cs rd → Q (.ref p) H'
theorem valP {kv : List (Key × V)} {k x : Str} {v a : V} (ne : k ≠ x) (h : valV kv (.inr x) = some a) : valV (putK kv (.inr k) v) (.inr x) = some a := by
  rw [valV_put]
  show (if (Sum.inr x : Key) = .inr k then some v else valV kv (.inr x)) = _
  rw [if_neg fun z => ne (by cases z; rfl)]
  exact h
theorem valS {kv : List (Key × V)} {k : Str} {v : V} : valV (putK kv (.inr k) v) (.inr k) = some v := by
  rw [valV_put]
  show (if (Sum.inr k : Key) = .inr k then some v else valV kv (.inr k)) = _
  rw [if_pos rfl]
theorem len_put (kv : List (Key × V)) (k : Str) (v : V) : (putK kv (.inr k) v).length ≤ kv.length + 1 := by
  have h2 := length_putK kv (.inr k : Key) v
  omega
section
variable {P : Program} {w : World} {K : PySem.W.Frag} {mg : Str → Option Value} {base : Heap}
theorem ok_own {f : Addr} {fd : FuncData} (F : Fun K "_law_own" "_law_own" s_law_own f fd) (T : Txt K mg) : FnOk P w K mg base CX0 1 f fd ["rows", "rules", "names"] (spOwn K) := by
  refine F.ok sc_law_own (fun vs H Q E h => ?_) (fun cdv A outer s H vs Q E hr h => ?_)
  · obtain ⟨_, _, _, _, _, _, _, rfl, _⟩ := h
    rfl
  obtain ⟨pr, pu, an, rv, ru, cs, rd, rfl, hpr, dr, hpu, du, lc, lr, nd, q⟩ := h
  refine ⟨_, (pss_cons (ps_set (i := 3) sc_law_own.nd rfl (Or.inl rfl) (pe_disp (pps_cons pe_str (pe_callTy call_tuple_of (by rfl) T.z_tuple (by decide +kernel) (pa_cons (pv 0) pa_nil)) (pps_cons pe_str pe_dnewK (pps_cons pe_str (pe_callTy call_tuple_of (by rfl) T.z_tuple (by decide +kernel) (pa_cons (pv 1) pa_nil)) (pps_cons pe_str (pv 2) pps_nil)))) (by rfl) (by rfl) (fun z => by cases z) (by decide)))
    (pss_cons (ps_for PassesOwn.never rfl (pi_list (pv 0)) (pg_name (i := 4) sc_law_own.nd rfl (Or.inl rfl)) (pss_one (ps_dput (hu_of hr) (pe_dget (hu_of hr) (pv 3) pe_str (fun _ _ => rfl)) (pe_ix ix_tup (pv 4) pe_int (fun _ _ => rfl)) (pv 4) rfl)))
    (pss_one (ps_ret (pv 3))))), ?_⟩
  have lrv : rv.length = cs.length := by rw [dr.lenD, List.length_map]
  refine fun p hp => ⟨_, rfl, pr, _, rfl, .inl ⟨SqL.of ((same_new hp) _ _ hpr), fun tr htr => fun po hpo => ⟨_, rfl, pu, _, rfl, .inl ⟨SqL.of (((same_new hp).trans ((same_new htr).trans (same_new hpo))) _ _ hpu), fun tu htu => ?_⟩⟩⟩⟩
  have s1 := same_new (o := .dK []) hp
  have s2 := same_new (o := .tup rv) htr
  have s3 := same_new (o := .dK []) hpo
  have s4 := same_new (o := .tup ru) htu
  have hp2 : (upd (upd (upd (upd H p (.dK [])) tr (.tup rv)) po (.dK [])) tu (.tup ru)) p = some (.dK []) := (s2.trans (s3.trans s4)) _ _ upd_same
  have ht2 : (upd (upd (upd (upd H p (.dK [])) tr (.tup rv)) po (.dK [])) tu (.tup ru)) tr = some (.tup rv) := (s3.trans s4) _ _ upd_same
  have ho2 : (upd (upd (upd (upd H p (.dK [])) tr (.tup rv)) po (.dK [])) tu (.tup ru)) po = some (.dK []) := s4 _ _ upd_same
  have hu2 : (upd (upd (upd (upd H p (.dK [])) tr (.tup rv)) po (.dK [])) tu (.tup ru)) tu = some (.tup ru) := upd_same
  have s04 := s1.trans (s2.trans (s3.trans s4))
  have npo : po ≠ p := fun z => by rw [z, s2 _ _ (show (upd H p (.dK [])) p = some (.dK []) from upd_same)] at hpo; cases hpo
  generalize upd (upd (upd (upd H p (HO.dK [])) tr (HO.tup rv)) po (HO.dK [])) tu (HO.tup ru) = H2 at *
  refine ⟨_, rfl, hp2, [(.inr "rows", .ref tr), (.inr "of", .ref po), (.inr "rules", .ref tu), (.inr "names", .ref an)], rfl, by show 4 ≤ 15; decide, ?_⟩
  have em : (mergeK [] [(Sum.inr "rows", V.ref tr), (.inr "of", .ref po), (.inr "rules", .ref tu), (.inr "names", .ref an)] : List (Key × V)) = putK (putK (putK (putK [] (.inr "rows") (.ref tr)) (.inr "of") (.ref po)) (.inr "rules") (.ref tu)) (.inr "names") (.ref an) := rfl
  rw [em]
  have v1 : valV (putK (putK (putK (putK ([] : List (Key × V)) (.inr "rows") (.ref tr)) (.inr "of") (.ref po)) (.inr "rules") (.ref tu)) (.inr "names") (.ref an)) (.inr "rows") = some (.ref tr) := valP (by decide) (valP (by decide) (valP (by decide) valS))
  have v2 : valV (putK (putK (putK (putK ([] : List (Key × V)) (.inr "rows") (.ref tr)) (.inr "of") (.ref po)) (.inr "rules") (.ref tu)) (.inr "names") (.ref an)) (.inr "of") = some (.ref po) := valP (by decide) (valP (by decide) valS)
  have v3 : valV (putK (putK (putK (putK ([] : List (Key × V)) (.inr "rows") (.ref tr)) (.inr "of") (.ref po)) (.inr "rules") (.ref tu)) (.inr "names") (.ref an)) (.inr "rules") = some (.ref tu) := valP (by decide) valS
  have v4 : valV (putK (putK (putK (putK ([] : List (Key × V)) (.inr "rows") (.ref tr)) (.inr "of") (.ref po)) (.inr "rules") (.ref tu)) (.inr "names") (.ref an)) (.inr "names") = some (.ref an) := valS
  generalize putK (putK (putK (putK ([] : List (Key × V)) (.inr "rows") (.ref tr)) (.inr "of") (.ref po)) (.inr "rules") (.ref tu)) (.inr "names") (.ref an) = kvs at *
  have s5 : Same H (upd H2 p (.dK kvs)) := Same.upd s04 hp
  have kp : ∀ {b : Addr} {o : HO}, b ≠ p → H2 b = some o → (upd H2 p (.dK kvs)) b = some o := fun n h => by rw [upd_ne n]; exact h
  have nt : tr ≠ p := fun z => by rw [z, hp2] at ht2; cases ht2
  have nu : tu ≠ p := fun z => by rw [z, hp2] at hu2; cases hu2
  have hp3 : (upd H2 p (.dK kvs)) p = some (.dK kvs) := upd_same
  have ht3 := kp nt ht2
  have ho3 := kp npo ho2
  have hu3 := kp nu hu2
  generalize upd H2 p (HO.dK kvs) = H3 at *
  have fpo : H po = none := by
    cases e : H po with
    | none => rfl
    | some o => rw [(s1.trans s2) _ _ e] at hpo; cases hpo
  have S : ∀ H', (∀ b, b ≠ po → H' b = H3 b) → Same H H' := fun H' e b o h => by rw [e b (ne_of_none h fpo)]; exact s5 _ _ h
  have npr : po ≠ pr := (ne_of_none hpr fpo).symm
  refine ⟨_, rfl, pr, rfl, ⟨_, SqL.of (s5 _ _ hpr)⟩, for_it (walk_list (K := K) (xs := rv)) (fun i σ H' => ∃ (o4 : Option V) (kv : List (Key × V)), σ = [some (.ref pr), some (.ref pu), some (.ref an), some (.ref p), o4] ∧ (∀ b, b ≠ po → H' b = H3 b) ∧ H' po = some (.dK kv) ∧ kv.length ≤ i ∧ ∀ x ∈ cs.take i, ∃ v, valV kv (.inr x.nm) = some v ∧ Dt K H v x.d)
    ⟨_, [], rfl, fun _ _ => rfl, ho3, Nat.le_refl _, fun x hx => by simp at hx⟩ (fun i σ H' _ h => ?_) ?_ ?_⟩
  · obtain ⟨_, _, _, y, _⟩ := h
    exact SqL.of (S _ y _ _ hpr)
  · rintro i x σ H4 H4' hi ⟨o4, kv, rfl, y4, hk4, lk, gk⟩ ⟨rfl, gx⟩
    obtain ⟨dd, gd, dx⟩ := dr.getX gx
    rw [List.getElem?_map] at gd
    cases e0 : cs[i]? with
    | none => rw [e0] at gd; cases gd
    | some y =>
    rw [e0] at gd
    cases gd
    obtain ⟨a, b, rfl, hsq, _⟩ := Con.get4 (dx.same (S _ y4))
    have hp4 : H4' p = some (.dK kvs) := by rw [y4 p npo.symm]; exact hp3
    have go : DGet H4' p (.str "of") (some (.ref po)) := by
      have z := DGet.k (k := Sum.inr ("of" : Str)) hp4
      rw [v2] at z; exact z
    refine ⟨_, rfl, _, rfl, p, _, rfl, go, vTx rfl hsq (atI_nat (j := 0) rfl) ⟨po, _, rfl, DPut.k (k := Sum.inr y.nm) hk4 (smallL (by omega)), ?_⟩⟩
    refine ⟨_, _, rfl, fun b nb => by rw [upd_ne nb]; exact y4 b nb, upd_same, by have := len_put kv y.nm (.ref a); omega, fun x hx => ?_⟩
    rw [take_snoc e0] at hx
    by_cases ex : x.nm = y.nm
    · have : x = y := by
        have my := List.mem_of_getElem? e0
        have mx : x ∈ cs := by
          rcases List.mem_append.mp hx with h | h
          · exact List.mem_of_mem_take h
          · rw [List.mem_singleton.mp h]; exact my
        have a1 := conOf_mem nd mx
        have a2 := conOf_mem nd my
        rw [ex, a2] at a1
        cases a1; rfl
      subst this
      exact ⟨_, valS, dx⟩
    · rcases List.mem_append.mp hx with h | h
      · obtain ⟨v, e1, e2⟩ := gk x h
        exact ⟨v, valP (fun z => ex z.symm) e1, e2⟩
      · exact absurd (by rw [List.mem_singleton.mp h]) ex
  rintro σ H4 ⟨o4, kv, rfl, y4, hk4, lk, gk⟩
  rw [lrv, List.take_length] at gk
  have sH := S _ y4
  refine ⟨_, rfl, q H4 p sH hp ⟨⟨kvs, kv, po, tr, tu, by rw [y4 p npo.symm]; exact hp3, v1, v2, v3, v4, ?_, ?_, hk4, fun x hx => ?_⟩⟩⟩
  · exact Dt.tup (SqT.of (by rw [y4 tr (fun z => by rw [z, ho3] at ht3; cases ht3)]; exact ht3)) (dr.same sH)
  · exact Dt.tup (SqT.of (by rw [y4 tu (fun z => by rw [z, ho3] at hu3; cases hu3)]; exact hu3)) (du.same sH)
  · obtain ⟨v, e1, e2⟩ := gk x hx
    exact ⟨v, e1, e2.same sH⟩
/-- a drawn language -/
structure Lang (cs : List Con) (ns : List Str) (rs : List Rl) : Prop where
  ck : CsOk cs
  two : 2 ≤ cs.length ∧ cs.length ≤ 5
  k0 : ∀ x : Con, cs[0]? = some x → x.kd = ("value" : Str)
  k1 : ∀ x : Con, cs[1]? = some x → x.kd = ("plain" : Str)
  wd : ∀ x ∈ cs.map Con.nm, Wd x ∧ x ∉ BARRED
  nd : ns.Nodup
  nw : ∀ x ∈ ns, Wd x ∧ x ∉ BARRED
  nl : 1 ≤ ns.length ∧ ns.length ≤ 3
  rl : rs.length ≤ 5
  rn : (rs.map Rl.nm).Nodup
  rw : ∀ x ∈ rs.map Rl.nm, Wd x ∧ x ∉ BARRED
  ms : ∃ ms : List Str, ms.Nodup ∧ ms.length = 6 ∧ (∀ x ∈ ms, Wd x ∧ x ∉ BARRED) ∧ ∀ r ∈ rs, r.ok cs ns ms
def spLang (K : PySem.W.Frag) : Sp := fun vs H Q _ => ∃ (l c : Addr), vs = [.ref l] ∧ Pool H l c ∧ ∀ (H' : Hp) (p an : Addr) (cs : List Con) (ns : List Str) (rs : List Rl), Ext l c H H' → H p = none → LgAt K H' p an cs (rs.map Rl.d) → Nm H' l an ns → Lang cs ns rs → Q (.ref p) H'
theorem Same.keepL {l c : Addr} {H H' : Hp} (s : Same H H') (P : Pool H l c) : Ext l c H H' := (Ext.refl P).same s
theorem ok_language {f : Addr} {fd : FuncData} (F : Fun K "_law_language" "_law_language" s_law_language f fd) (T : Txt K mg) (C_law_take : C8.Cal P w K mg base 2 "_law_take" (spTake 2) []) (C_law_words : C8.Cal P w K mg base 3 "_law_words" spWords []) (C_law_constructors : C8.Cal P w K mg base 3 "_law_constructors" (spCons K) [])
    (C_law_rule : C8.Cal P w K mg base 20 "_law_rule" (spRule K) []) (C_law_own : C8.Cal P w K mg base 1 "_law_own" (spOwn K) []) : FnOk P w K mg base CX0 21 f fd ["pool"] (spLang K) := by
  refine F.ok sc_law_language (fun vs H Q E h => ?_) (fun cdv A outer s H vs Q E hr h => ?_)
  · obtain ⟨_, _, rfl, _⟩ := h
    rfl
  obtain ⟨l, c, rfl, P0, q⟩ := h
  refine ⟨_, (pss_cons (ps_set (i := 1) sc_law_language.nd rfl (Or.inl rfl) (C8.pe_c C_law_words hr (by decide) rfl (pa_cons (pv 0) (pa_cons (pe_op op_add pe_int (C8.pe_c C_law_take hr (by decide) rfl (pa_cons (pv 0) (pa_cons pe_int pa_nil)))) pa_nil))))
    (pss_cons (ps_set (i := 2) sc_law_language.nd rfl (Or.inl rfl) (pe_disp (pps_cons pe_str (C8.pe_c C_law_constructors hr (by decide) rfl (pa_cons (pv 0) (pa_cons (pv 1) pa_nil))) (pps_cons pe_str (C8.pe_c C_law_words hr (by decide) rfl (pa_cons (pv 0) (pa_cons (pe_op op_add pe_int (C8.pe_c C_law_take hr (by decide) rfl (pa_cons (pv 0) (pa_cons pe_int pa_nil)))) pa_nil))) pps_nil)) (by rfl) (by rfl) (fun z => by cases z) (by decide)))
    (pss_cons (ps_set (i := 3) sc_law_language.nd rfl (Or.inl rfl) (C8.pe_c C_law_words hr (by decide) rfl (pa_cons (pv 0) (pa_cons pe_int pa_nil))))
    (pss_cons (ps_set (i := 4) sc_law_language.nd rfl (Or.inl rfl) (pe_lst pa_nil))
    (pss_cons (ps_for PassesOwn.never rfl (pi_list (C8.pe_c C_law_words hr (by decide) rfl (pa_cons (pv 0) (pa_cons (C8.pe_c C_law_take hr (by decide) rfl (pa_cons (pv 0) (pa_cons pe_int pa_nil))) pa_nil)))) (pg_name (i := 5) sc_law_language.nd rfl (Or.inl rfl)) (pss_one (ps_expr (pe_bm PySem.F.plainAttrs_list PySem.F.slot_list_append PySem.F.type_list_append mt_append (pv 4) (pa_cons (C8.pe_c C_law_rule hr (by decide) rfl (pa_cons (pv 0) (pa_cons (pv 2) (pa_cons (pv 5) (pa_cons (pv 3) pa_nil))))) pa_nil)))))
    (pss_one (ps_ret (C8.pe_c C_law_own hr (by decide) rfl (pa_cons (pe_dget (hu_of hr) (pv 2) pe_str (fun _ _ => rfl)) (pa_cons (pv 4) (pa_cons (pe_dget (hu_of hr) (pv 2) pe_str (fun _ _ => rfl)) pa_nil))))))))))), ?_⟩
  refine ⟨_, rfl, vTake rfl P0 (by decide) (by decide) fun d H1 d0 d1 x1 => ⟨_, _, rfl, rfl, l, c, (2 + d).toNat, by rw [Int.toNat_of_nonneg (by omega)]; rfl, x1.pool, by omega, fun H2 pw ws x2 hpw0 hpw lws ndw wws => ?_⟩⟩
  have y2 := x1.trans x2
  have npw : pw ≠ l := (x1.pool.ne hpw0).1
  refine fun bx hbx => ?_
  have y3 := y2.new (o := .dK []) P0 hbx
  have z3 : Ext l c H2 (upd H2 bx (.dK [])) := (Ext.refl y2.pool).new y2.pool hbx
  have hb3 : (upd H2 bx (.dK [])) bx = some (.dK []) := upd_same
  have fbx : H bx = none := y2.free P0 hbx
  have nbl := y2.pool.ne hbx
  have hpw3 := z3.keep _ _ npw hpw
  generalize upd H2 bx (HO.dK []) = H3 at *
  refine ⟨_, rfl, _, rfl, l, c, pw, ws, rfl, y3.pool, npw, hpw3, by omega, fun H4 ar rv cs x4 har0 har drv enm okc k0 k1 => ?_⟩
  have nar : ar ≠ l := (y3.pool.ne har0).1
  have y4 := y3.trans x4
  refine ⟨_, rfl, vTake rfl y4.pool (by decide) (by decide) fun d2 H5 d20 d21 x5 => ⟨_, _, rfl, rfl, l, c, (1 + d2).toNat, by rw [Int.toNat_of_nonneg (by omega)]; rfl, x5.pool, by omega, fun H6 an ns x6 han0 han lns ndn wns => ?_⟩⟩
  have nan : an ≠ l := (x5.pool.ne han0).1
  have y6 := y4.trans (x5.trans x6)
  have hb6 := (x4.trans (x5.trans x6)).keep _ _ nbl.1 hb3
  have har6 := (x5.trans x6).keep _ _ nar har
  have drv6 := drv.ext x4.pool (x5.trans x6)
  refine ⟨hb6, [(.inr "rows", .ref ar), (.inr "names", .ref an)], rfl, by show 2 ≤ 15; decide, ?_⟩
  have em : (mergeK [] [(Sum.inr "rows", V.ref ar), (.inr "names", .ref an)] : List (Key × V)) = putK (putK [] (.inr "rows") (.ref ar)) (.inr "names") (.ref an) := rfl
  rw [em]
  have v1 : valV (putK (putK ([] : List (Key × V)) (.inr "rows") (.ref ar)) (.inr "names") (.ref an)) (.inr "rows") = some (.ref ar) := valP (by decide) valS
  have v2 : valV (putK (putK ([] : List (Key × V)) (.inr "rows") (.ref ar)) (.inr "names") (.ref an)) (.inr "names") = some (.ref an) := valS
  have v3 : (putK (putK ([] : List (Key × V)) (.inr "rows") (.ref ar)) (.inr "names") (.ref an)).length ≤ 2 := by
    have h1 := len_put (putK ([] : List (Key × V)) (.inr "rows") (.ref ar)) "names" (.ref an)
    have h2 := len_put ([] : List (Key × V)) "rows" (.ref ar)
    rw [List.length_nil] at h2
    omega
  generalize putK (putK ([] : List (Key × V)) (.inr "rows") (.ref ar)) (.inr "names") (.ref an) = kvs at *
  have nab : ar ≠ bx := fun z => by rw [z, hb6] at har6; cases har6
  have nnb : an ≠ bx := fun z => by rw [z, hb6] at han; cases han
  have y7 : Ext l c H (upd H6 bx (.dK kvs)) := y6.upd P0 fbx
  have B7 : Box0 K (upd H6 bx (.dK kvs)) l bx ar an cs ns 2 := ⟨nar, ⟨kvs, upd_same, v1, v2, v3⟩, ⟨rv, by rw [upd_ne nab]; exact har6, DtAll.mono (fun _ _ z => seqT_updK z hb6) _ _ drv6⟩, ⟨by rw [upd_ne nnb]; exact han, nan, by omega, by omega, fun x hx => (wns x hx).1⟩⟩
  generalize upd H6 bx (HO.dK kvs) = H7 at *
  have lcs : cs.length = ws.length := by have := congrArg List.length enm; rwa [List.length_map] at this
  have CK : CsOk cs := ⟨by rw [enm]; exact ndw, by omega, okc, ⟨cs[0]'(by omega), List.getElem_mem _, k0 _ (List.getElem?_eq_getElem _)⟩, ⟨cs[1]'(by omega), List.getElem_mem _, k1 _ (List.getElem?_eq_getElem _)⟩⟩
  refine ⟨_, rfl, l, c, 6, rfl, y7.pool, by decide, fun H8 pm ms x8 hpm0 hpm lms ndm wms => ?_⟩
  have npm : pm ≠ l := (y7.pool.ne hpm0).1
  have y8 := y7.trans x8
  have B8 : Box0 K H8 l bx ar an cs ns 2 := by
    obtain ⟨kv, h1, h2, h3, h4⟩ := B7.hb
    obtain ⟨rv', h5, h6⟩ := B7.rv
    exact ⟨nar, ⟨kv, x8.keep _ _ nbl.1 h1, h2, h3, h4⟩, ⟨rv', x8.keep _ _ nar h5, h6.ext y7.pool x8⟩, B7.nm.ext x8⟩
  refine ⟨Nat.zero_le _, fun L hL => ?_⟩
  have y9 := y8.new (o := .lst []) P0 hL
  have z9 : Ext l c H8 (upd H8 L (.lst [])) := (Ext.refl y8.pool).new y8.pool hL
  have hL9 : (upd H8 L (.lst [])) L = some (.lst []) := upd_same
  have fL : H L = none := y8.free P0 hL
  have nL := y8.pool.ne hL
  have hpm9 := z9.keep _ _ npm hpm
  have npL : pm ≠ L := ne_of_none hpm hL
  have B9 : Box0 K (upd H8 L (.lst [])) l bx ar an cs ns 2 := by
    obtain ⟨kv, h1, h2, h3, h4⟩ := B8.hb
    obtain ⟨rv', h5, h6⟩ := B8.rv
    exact ⟨nar, ⟨kv, z9.keep _ _ nbl.1 h1, h2, h3, h4⟩, ⟨rv', z9.keep _ _ nar h5, h6.ext y8.pool z9⟩, B8.nm.ext z9⟩
  generalize upd H8 L (HO.lst []) = H9 at *
  refine ⟨_, rfl, vTake rfl y9.pool (by decide) (by decide) fun d3 H10 d30 d31 x10 => ⟨l, c, d3.toNat, by rw [Int.toNat_of_nonneg (by omega)]; rfl, x10.pool, by omega, fun H11 pn nms x11 hpn0 hpn lnm ndnm wnm => ?_⟩⟩
  have z11 := x10.trans x11
  have y11 := y9.trans z11
  have npn : pn ≠ l := (x10.pool.ne hpn0).1
  have hpm11 := z11.keep _ _ npm hpm9
  have hL11 := z11.keep _ _ nL.1 hL9
  have B11 : Box0 K H11 l bx ar an cs ns 2 := by
    obtain ⟨kv, h1, h2, h3, h4⟩ := B9.hb
    obtain ⟨rv', h5, h6⟩ := B9.rv
    exact ⟨nar, ⟨kv, z11.keep _ _ nbl.1 h1, h2, h3, h4⟩, ⟨rv', z11.keep _ _ nar h5, h6.ext y9.pool z11⟩, B9.nm.ext z11⟩
  have npnb : pn ≠ bx := fun z => by
    obtain ⟨kv, h1, _⟩ := B11.hb
    rw [z, h1] at hpn; cases hpn
  have npnL : pn ≠ L := fun z => by rw [z, x10.keep _ _ nL.1 hL9] at hpn0; cases hpn0
  have nbL : bx ≠ L := fun z => by
    obtain ⟨kv, h1, _⟩ := B11.hb
    rw [z, hL11] at h1; cases h1
  have npmb : pm ≠ bx := fun z => by
    obtain ⟨kv, h1, _⟩ := B11.hb
    rw [z, h1] at hpm11; cases hpm11
  have mL : L ∈ [bx, L] := by simp
  have nrL : ar ≠ L := by
    obtain ⟨rv', h5, _⟩ := B8.rv
    exact ne_of_none h5 hL
  have nnL : an ≠ L := ne_of_none B8.nm.at_ hL
  have nin : ∀ {b : Addr}, b ≠ bx → b ≠ L → b ∉ [bx, L] := fun h1 h2 h => by
    rcases List.mem_cons.mp h with z | z
    · exact h1 z
    · exact h2 (List.mem_singleton.mp z)
  refine ⟨pn, rfl, ⟨_, SqL.of hpn⟩, for_it (walk_list (K := K) (xs := nms.map V.str)) (fun i σ H' => ∃ (o5 : Option V) (rs : List Rl) (ru : List V), σ = [some (.ref l), some (.ref pw), some (.ref bx), some (.ref pm), some (.ref L), o5] ∧ ExX l c [bx, L] H11 H' ∧ Box0 K H' l bx ar an cs ns (2 + 5 * i) ∧ H' L = some (.lst ru) ∧ DtAll K H' ru (rs.map Rl.d) ∧ rs.map Rl.nm = nms.take i ∧ ∀ r ∈ rs, r.ok cs ns ms)
    ⟨_, [], [], rfl, ExX.refl y11.pool, B11, hL11, .nil, by simp, fun r hr => absurd hr List.not_mem_nil⟩ (fun i σ H' _ h => ?_) ?_ ?_⟩
  · obtain ⟨_, _, _, _, y, _⟩ := h
    exact SqL.of (y.keep _ _ npn (nin npnb npnL) hpn)
  · rintro i x σ H12 H12' hi ⟨o5, rs, ru, rfl, x12, B12, hL12, du, en, okr⟩ ⟨rfl, gx⟩
    rw [List.getElem?_map] at gx
    cases e0 : nms[i]? with
    | none => rw [e0] at gx; cases gx
    | some nm0 =>
    rw [e0] at gx
    cases gx
    have hin := (List.getElem?_eq_some_iff.mp e0).1
    have hi5 : i < 6 := by omega
    have lrs : rs.length = i := by have := congrArg List.length en; rw [List.length_map, List.length_take] at this; omega
    have lru : ru.length = rs.length := by rw [du.lenD, List.length_map]
    refine ⟨_, rfl, .inl ⟨rfl, _, SqL.of hL12⟩, _, rfl, _, rfl, _, rfl, _, rfl, l, c, bx, ar, an, pm, cs, ns, ms, nm0, 2 + 5 * i, rfl, x12.pool, B12, by omega, CK, ndn, npm, x12.keep _ _ npm (nin npmb npL) hpm11, by omega, fun x hx => (wms x hx).1, fun H13 v r x13 B13 dv okr1 er => ?_⟩
    have hL13 := x13.keep _ _ nL.1 (fun z => nbL (List.mem_singleton.mp z).symm) hL12
    have M12 : ∀ b ∈ [bx], Mut1 H12' b := fun b hb => by
      obtain ⟨kv, h1, _⟩ := B12.hb
      rw [List.mem_singleton.mp hb]; exact .inr ⟨_, h1⟩
    have du13 := x13.dts x12.pool M12 du
    refine ⟨L, ru, _, rfl, rfl, hL13, smallL (by omega), _, rs ++ [r], ru ++ [v], rfl, ?_, ?_, upd_same, ?_, ?_, ?_⟩
    · exact ExX.mem ⟨fun b o h1 h2 h => x13.keep _ _ h1 (fun z => h2 (List.mem_cons.mpr (.inl (List.mem_singleton.mp z)))) (x12.keep _ _ h1 h2 h), x13.pool⟩ mL nL.1 nL.2
    · obtain ⟨kv, h1, h2, h3, h4⟩ := B13.hb
      obtain ⟨rv', h5, h6⟩ := B13.rv
      exact ⟨nar, ⟨kv, by rw [upd_ne nbL]; exact h1, h2, h3, by omega⟩, ⟨rv', by rw [upd_ne nrL]; exact h5, h6.upd hL13⟩, ⟨by rw [upd_ne nnL]; exact B13.nm.at_, B13.nm.ne, B13.nm.ne0, B13.nm.le, B13.nm.wd⟩⟩
    · rw [List.map_append]
      exact (du13.append (.cons dv .nil)).upd hL13
    · rw [List.map_append, en, take_snoc e0, List.map_cons, er]; rfl
    · intro r2 hr2
      rcases List.mem_append.mp hr2 with h | h
      · exact okr r2 h
      · rw [List.mem_singleton.mp h]; exact okr1
  rintro σ H12 ⟨o5, rs, ru, rfl, x12, B12, hL12, du, en, okr⟩
  rw [List.length_map, List.take_length] at en
  have lrs : rs.length = nms.length := by rw [← en, List.length_map]
  have yE : Ext l c H H12 := ⟨fun b o h1 h => x12.keep _ _ h1 (nin (ne_of_none h fbx) (ne_of_none h fL)) (y11.keep _ _ h1 h), x12.pool⟩
  obtain ⟨kv, h1, h2, h3, h4⟩ := B12.hb
  obtain ⟨rv', h5, h6⟩ := B12.rv
  have gr : DGet H12 bx (.str "rows") (some (.ref ar)) := by
    have z := DGet.k (k := Sum.inr ("rows" : Str)) h1
    rw [h2] at z; exact z
  have gn : DGet H12 bx (.str "names") (some (.ref an)) := by
    have z := DGet.k (k := Sum.inr ("names" : Str)) h1
    rw [h3] at z; exact z
  refine ⟨_, rfl, bx, _, rfl, gr, _, rfl, _, rfl, bx, _, rfl, gn, ar, L, an, rv', ru, cs, rs.map Rl.d, rfl, h5, h6, hL12, du, by omega, by rw [List.length_map]; omega, CK.nd, fun H' p s' hp LG => ?_⟩
  have xF := x12.pool
  exact q H' p an cs ns rs (yE.same s') (yE.free P0 hp) LG (B12.nm.ext (Same.keepL s' xF)) ⟨CK, ⟨by omega, by omega⟩, k0, k1, fun x hx => wws x (by rw [← enm]; exact hx), ndn, wns, ⟨by omega, by omega⟩, by omega, by rw [en]; exact ndnm, fun x hx => wnm x (by rw [← en]; exact hx), ⟨ms, ndm, lms, wms, okr⟩⟩
end
end PK
namespace PK
open PySem L2
/-! drawn programs -/
/-- a drawn term of a language; b: a worth -/
inductive Gr (cs : List Con) (ns : List Str) : Bool → Tm → Prop
  | atom {b : Bool} {t : Tm} : atB ns t → Gr cs ns b t
  | map {b : Bool} {es : List (Str × Tm)} : (es.map Prod.fst).Nodup → (∀ x ∈ es, x.1 ∈ ns) → es.length ≤ ns.length → (∀ x ∈ es, Gr cs ns true x.2) → Gr cs ns b (.map es)
  | node {b : Bool} {y : Con} {ts : List Tm} : y ∈ cs → ts.length = y.ar → (b = true → y.kd = ("value" : Str)) → (∀ (i : Nat) (k : Tm), ts[i]? = some k → Gr cs ns (b && decide ((i : Int) ∈ y.pl)) k) → Gr cs ns b (.node y.nm ts)
theorem Gr.weak {cs : List Con} {ns : List Str} : ∀ (t : Tm) (b : Bool), Gr cs ns b t → Gr cs ns false t := by
  refine Tm.ind fun t ih b h => ?_
  cases h with
  | atom h => exact .atom h
  | map h1 h2 h3 h4 => exact .map h1 h2 h3 h4
  | node h1 h2 h3 h4 => exact .node h1 h2 (fun z => nomatch z) fun i k e => ih k (List.mem_of_getElem? e) _ (h4 i k e)
def hG (d : Nat) : Nat := 4 * d + 1
def sG : Nat → Nat
  | 0 => 1
  | d + 1 => 40 + 6 * sG d
theorem sG_pos : ∀ d, 1 ≤ sG d
  | 0 => Nat.le_refl _
  | d + 1 => by show 1 ≤ 40 + _; omega
def sP : Nat → Nat
  | 0 => 0
  | d + 1 => 1 + 3 * sP d
/-- the language at p, as the promises have it -/
structure LgP (K : PySem.W.Frag) (H : Hp) (l c p an : Addr) (cs : List Con) (ns : List Str) (rs : List Rl) : Prop where
  pool : Pool H l c
  at_ : LgAt K H p an cs (rs.map Rl.d)
  nm : Nm H l an ns
  ok : Lang cs ns rs
theorem LgAt.ext {K : PySem.W.Frag} {H H' : Hp} {l c p an : Addr} {cs : List Con} {rd : List PyData} (h : LgAt K H p an cs rd) (P : Pool H l c) (x : Ext l c H H') : LgAt K H' p an cs rd := by
  obtain ⟨kvs, kv, po, pr, pu, h1, e1, e2, e3, e4, d1, d2, h2, g⟩ := h.out
  have nl : ∀ {b : Addr} {kv : List (Key × V)}, H b = some (.dK kv) → b ≠ l := fun h z => by
    obtain ⟨ns, i, r, s, hl, _⟩ := P
    rw [z, hl] at h; cases h
  exact ⟨⟨kvs, kv, po, pr, pu, x.keep _ _ (nl h1) h1, e1, e2, e3, e4, d1.ext P x, d2.ext P x, x.keep _ _ (nl h2) h2, fun y hy => by
    obtain ⟨v, a, b⟩ := g y hy
    exact ⟨v, a, b.ext P x⟩⟩⟩
theorem LgP.ext {K : PySem.W.Frag} {H H' : Hp} {l c p an : Addr} {cs : List Con} {ns : List Str} {rs : List Rl} (h : LgP K H l c p an cs ns rs) (x : Ext l c H H') : LgP K H' l c p an cs ns rs :=
  ⟨x.pool, h.at_.ext h.pool x, h.nm.ext x, h.ok⟩
theorem LgAt.g {K : PySem.W.Frag} {H : Hp} {p an : Addr} {cs : List Con} {rd : List PyData} (h : LgAt K H p an cs rd) : DGet H p (.str "names") (some (.ref an)) ∧ (∃ pr, DGet H p (.str "rows") (some (.ref pr)) ∧ Dt K H (.ref pr) (.tuple (cs.map Con.d))) ∧ (∃ pu, DGet H p (.str "rules") (some (.ref pu)) ∧ Dt K H (.ref pu) (.tuple rd)) ∧ ∃ po, DGet H p (.str "of") (some (.ref po)) ∧ ∀ x ∈ cs, ∃ v, DGet H po (.str x.nm) (some v) ∧ Dt K H v x.d := by
  obtain ⟨kvs, kv, po, pr, pu, h1, e1, e2, e3, e4, d1, d2, h2, g⟩ := h.out
  have gg : ∀ (k : Str) (v : V), valV kvs (.inr k) = some v → DGet H p (.str k) (some v) := fun k v e => by
    have z := DGet.k (k := Sum.inr k) h1
    rw [e] at z
    exact z
  refine ⟨gg _ _ e4, ⟨pr, gg _ _ e1, d1⟩, ⟨pu, gg _ _ e3, d2⟩, po, gg _ _ e2, fun x hx => ?_⟩
  obtain ⟨v, a, b⟩ := g x hx
  have z := DGet.k (k := Sum.inr x.nm) h2
  rw [a] at z
  exact ⟨v, z, b⟩
def spGr (K : PySem.W.Frag) (n : Nat) : Sp := fun vs H Q _ => ∃ (l c p an : Addr) (cs : List Con) (ns : List Str) (rs : List Rl) (b : Bool) (d : Nat), vs = [.ref l, .ref p, .bl b, .int (d : Nat)] ∧ LgP K H l c p an cs ns rs ∧ d < n ∧
  ∀ (H' : Hp) (v : V) (t : Tm), Ext l c H H' → Dt K H' v t.d → Gr cs ns b t → t.ht ≤ hG d → t.size ≤ sG d → Q v H'
def spFill (K : PySem.W.Frag) (n h : Nat) : Sp := fun vs H Q _ => ∃ (l c p an : Addr) (cs : List Con) (ns : List Str) (rs : List Rl) (tv : V) (pt : Tm) (bb : Bool) (d : Nat), vs = [.ref l, .ref p, tv, .int (d : Nat)] ∧ LgP K H l c p an cs ns rs ∧ Dt K H tv pt.d ∧ PatOk cs ns bb pt ∧ pt.ht < h ∧ 1 ≤ d ∧ d ≤ n ∧
  ∀ (H' : Hp) (v : V) (t : Tm), Ext l c H H' → Dt K H' v t.d → Gr cs ns false t → t.ht ≤ pt.ht + hG (d - 1) → t.size ≤ pt.size + (pwd pt).length * sG (d - 1) → Q v H'
theorem szsum (s : Nat) : ∀ (ks ts : List Tm), ks.length = ts.length → (∀ (j : Nat) (k t : Tm), ks[j]? = some k → ts[j]? = some t → k.size ≤ t.size + (pwd t).length * s) → (ks.map Tm.size).sum ≤ (ts.map Tm.size).sum + ((ts.map pwd).flatten).length * s
  | [], [], _, _ => Nat.zero_le _
  | k :: ks, t :: ts, hl, h => by
    have h0 := h 0 k t rfl rfl
    have ih := szsum s ks ts (by simpa using hl) fun j a b e1 e2 => h (j + 1) a b (by simpa using e1) (by simpa using e2)
    simp only [List.map_cons, List.sum_cons, List.flatten_cons, List.length_append, Nat.add_mul]
    omega
theorem szle (s : Nat) : ∀ (ks : List Tm), (∀ k ∈ ks, k.size ≤ s) → (ks.map Tm.size).sum ≤ ks.length * s
  | [], _ => Nat.zero_le _
  | k :: ks, h => by
    have h0 := h k List.mem_cons_self
    have ih := szle s ks fun x hx => h x (List.mem_cons_of_mem _ hx)
    simp only [List.map_cons, List.sum_cons, List.length_cons, Nat.add_mul]
    omega
theorem Tm.ht1 {t : Tm} (h : t.kids = []) : t.ht = 1 ∧ t.size = 1 := by
  rw [Tm.ht_eq, Tm.size_eq, h]
  exact ⟨rfl, rfl⟩
/-- as many parts as a pattern has -/
theorem PatOk.size {cs : List Con} {ns : List Str} (ck : CsOk cs) : ∀ (n : Nat) (b : Bool) (t : Tm), PatOk cs ns b t → t.ht ≤ n → t.size ≤ sP n
  | 0, b, t, h, hh => by
    have := t.ht_pos
    omega
  | n + 1, b, t, h, hh => by
    cases h with
    | atom h => rw [(Tm.ht1 h.kids).2]; show 1 ≤ 1 + _; omega
    | var => rw [(Tm.ht1 rfl).2]; show 1 ≤ 1 + _; omega
    | node hx hl hb hk =>
      rename_i x ts
      rw [Tm.size_eq]
      have h3 := (ck.ok x hx).ar
      have := szle (sP n) ts fun k hk2 => by
        obtain ⟨i, hi⟩ := List.getElem?_of_mem hk2
        have := Tm.ht_kid (t := .node x.nm ts) hk2
        exact PatOk.size ck n _ k (hk i k hi) (by omega)
      show 1 + ((ts.map Tm.size)).sum ≤ 1 + 3 * sP n
      have : ts.length * sP n ≤ 3 * sP n := Nat.mul_le_mul_right _ (by omega)
      omega
theorem PatOk.weak {cs : List Con} {ns : List Str} : ∀ (t : Tm) (b : Bool), PatOk cs ns b t → PatOk cs ns false t := by
  refine Tm.ind fun t ih b h => ?_
  cases h with
  | atom h => exact .atom h
  | var => exact .var
  | node h1 h2 h3 h4 => exact .node h1 h2 (fun z => nomatch z) fun i k e => ih k (List.mem_of_getElem? e) _ (h4 i k e)
theorem PatT.ok {cs : List Con} {ns : List Str} {t : Tm} (h : PatT cs ns t) : PatOk cs ns false t := by
  obtain ⟨y, ts, rfl, hy, _, hl, hk⟩ := h.nd
  exact .node hy hl (fun z => nomatch z) fun i k e => (hk i k e).weak
theorem Rl.get5 {K : PySem.W.Frag} {H : Hp} {v : V} {r : Rl} (h : Dt K H v r.d) : ∃ a x2 x3 x4 x5, v = .ref a ∧ SqT K H a [.str r.nm, x2, x3, x4, x5] ∧ Dt K H x2 r.pat.d ∧ Dt K H x3 (.tuple (r.ds.map Cd.d)) ∧ Dt K H x4 (actD r.act) ∧ Dt K H x5 r.frm.d := by
  unfold Rl.d at h
  obtain ⟨a, ys, rfl, hs, dys⟩ := Dt.tn h
  cases dys with | cons h1 t1 => cases t1 with | cons h2 t2 => cases t2 with | cons h3 t3 => cases t3 with | cons h4 t4 => cases t4 with | cons h5 t5 =>
  cases t5
  rw [h1.s] at hs
  exact ⟨a, _, _, _, _, rfl, hs, h2, h3, h4, h5⟩
section
variable {P : Program} {w : World} {K : PySem.W.Frag} {mg : Str → Option Value} {base : Heap}
abbrev s_law_ground : Stmt := topS 43
theorem sc_law_ground : FnScope ["pool", "language", "is_worth", "depth", "kind", "names", "rule", "row", "rows", "parts", "place", "name"] ["pool", "language", "is_worth", "depth"] (defScope s_law_ground) := ⟨rfl, rfl, rfl, by decide +kernel, rfl, by decide +kernel, by decide +kernel⟩
-- slots: 0:pool(cell) 1:language(cell) 2:is_worth(cell) 3:depth(cell) 4:kind 5:names 6:rule 7:row(cell) 8:rows 9:parts 10:place(comp) 11:name(comp)
abbrev s_law_filled : Stmt := topS 44
theorem sc_law_filled : FnScope ["pool", "language", "pattern", "depth", "kind", "part"] ["pool", "language", "pattern", "depth"] (defScope s_law_filled) := ⟨rfl, rfl, rfl, by decide +kernel, rfl, by decide +kernel, by decide +kernel⟩
-- slots: 0:pool(cell) 1:language(cell) 2:pattern 3:depth(cell) 4:kind 5:part(comp)
theorem ok_filled {n h lv : Nat} {f : Addr} {fd : FuncData} (F : Fun K "_law_filled" "_law_filled" s_law_filled f fd) (T : Txt K mg) (l5 : 2 ≤ lv) (C_law_take : C8.Cal P w K mg base 2 "_law_take" (spTake 2) []) (C_law_ground : C8.Cal P w K mg base lv "_law_ground" (spGr K n) [])
    (C_law_filled : C8.Cal P w K mg base (lv + h) "_law_filled" (spFill K n h) []) : FnOk P w K mg base CX0 (lv + h + 1) f fd ["pool", "language", "pattern", "depth"] (spFill K n (h + 1)) := by
  refine F.ok sc_law_filled (fun vs H Q E h => ?_) (fun cdv A outer s H vs Q E hr hh => ?_)
  · obtain ⟨_, _, _, _, _, _, _, _, _, _, _, rfl, _⟩ := h
    rfl
  obtain ⟨l, c, p, an, cs, ns, rs, tv, pt, bb, d, rfl, LP, dp, op, hp, d1, dn, q⟩ := hh
  refine ⟨_, (C8.pss_cut (ps_if (pt_cmpR op_eq (pe_ix ix_tup (pv 2) pe_int (fun _ _ => rfl)) pe_str (nomark _)) (pss_cons (ps_set (i := 4) sc_law_filled.nd rfl (Or.inl rfl) (C8.pe_c C_law_take hr (by omega) rfl (pa_cons (pv 0) (pa_cons pe_int pa_nil))))
    (C8.pss_cut (ps_if (pt_cmpR op_eq (pv 4) pe_int (nomark _)) (pss_one (ps_ret (pe_tup (pa_cons pe_str (pa_cons (pe_op op_sub (C8.pe_c C_law_take hr (by omega) rfl (pa_cons (pv 0) (pa_cons pe_int pa_nil))) pe_int) pa_nil))))) pss_nil)
    (pss_one (ps_ret (C8.pe_c C_law_ground hr (by omega) rfl (pa_cons (pv 0) (pa_cons (pv 1) (pa_cons (pe_cmpR op_eq (pv 4) pe_int (nomark _)) (pa_cons (pe_op op_sub (pv 3) pe_int) pa_nil))))))))) pss_nil)
    (C8.pss_cut (ps_if (pt_cmpR op_eq (pe_ix ix_tup (pv 2) pe_int (fun _ _ => rfl)) pe_str (nomark _)) (pss_one (ps_ret (pe_tup (pa_cons pe_str (pa_cons (pe_ix ix_tup (pv 2) pe_int (fun _ _ => rfl)) (pa_cons (pe_callTy call_tuple_of (by rfl) T.z_tuple (by decide +kernel) (pa_cons (pe_lc (own := [("part", 5)]) (g := (gName 5)) (tt := tYes) (by rfl) sc_law_filled.nd (pi_tup (pe_ix ix_tup (pv 2) pe_int (fun _ _ => rfl))) (blkOk_by (N := ["pool", "language", "pattern", "depth", "kind", "part"]) (sc := defScope s_law_filled) (by decide +kernel)) (fun _ _ _ _ _ => (pg_name (i := 5) sc_law_filled.nd rfl (Or.inl rfl))) (fun _ _ _ _ _ => pts_nil) (fun _ _ _ _ _ => (C8.pe_c C_law_filled hr (by omega) rfl (pa_cons (pv 0) (pa_cons (pv 1) (pa_cons (pv 5) (pa_cons (pv 3) pa_nil))))))) pa_nil)) pa_nil)))))) pss_nil)
    (pss_one (ps_ret (pv 2))))), ?_⟩
  have two : ∀ x y : V, [x, y].length ≤ sizeLine := fun x y => small (by show 2 ≤ _; decide)
  have three : ∀ x y z : V, [x, y, z].length ≤ sizeLine := fun x y z => small (by show 3 ≤ _; decide)
  have P0 := LP.pool
  obtain ⟨e, rfl⟩ : ∃ e, d = e + 1 := ⟨d - 1, by omega⟩
  have ed : V.int (((e + 1 : Nat) : Int) - 1) = .int (e : Nat) := by simp
  obtain ⟨a2, r2, rfl, hs2⟩ := Tm.dt_parts dp
  replace q : ∀ (H' : Hp) (v : V) (t : Tm), Ext l c H H' → Dt K H' v t.d → Gr cs ns false t → t.ht ≤ pt.ht + hG e → t.size ≤ pt.size + (pwd pt).length * sG e → Q v H' := q
  have hpos := pt.ht_pos
  have gpos := sG_pos e
  refine ⟨fun σ H' => σ = [some (.ref l), some (.ref p), some (.ref a2), some (.int (e + 1 : Nat)), none, none] ∧ H = H' ∧ pt.hd ≠ "meta", ?_, ?_⟩
  · refine vTx rfl hs2 (atI_nat (j := 0) rfl) ⟨rfl, _, rfl, ?_⟩
    by_cases em : pt.hd = "meta"
    · obtain ⟨s0, rfl⟩ := Tm.of_var em
      have ep : (pwd (.var s0)).length = 1 := by unfold pwd; rfl
      refine sT em (vTake rfl P0 (by decide) (by decide) fun k H1 k0 k1 x1 => ?_)
      refine ⟨fun σ H' => σ = [some (.ref l), some (.ref p), some (.ref a2), some (.int (e + 1 : Nat)), some (.int k), none] ∧ H1 = H', ⟨_, rfl, rfl, _, rfl, ite2 (fun _ => ?_) fun _ => ⟨rfl, rfl⟩⟩, ?_⟩
      · refine vTake rfl x1.pool (by decide) (by decide) fun j H2 j0 j1 x2 => ⟨_, _, rfl, rfl, two _ _, fun t ht => ?_⟩
        have h1 := Tm.ht1 (t := .int (j - 3)) rfl
        refine q _ _ (.int (j - 3)) ((x1.trans x2).new P0 ht) (by unfold Tm.d; exact Dt.mk2 ht (.str _) (.int _)) (.atom ⟨by omega, by omega⟩) (by rw [h1.1]; omega) (by rw [h1.2, ep]; omega)
      · rintro σ H2 ⟨rfl, rfl⟩
        refine ⟨_, rfl, _, rfl, _, rfl, rfl, _, rfl, _, _, rfl, rfl, l, c, p, an, cs, ns, rs, _, e, by show [V.ref l, .ref p, _, .int (((e + 1 : Nat) : Int) - 1)] = _; rw [ed], LP.ext x1, by omega, fun H3 v t x3 dv g hh hs => ?_⟩
        exact q H3 v t (x1.trans x3) dv g.weak (by omega) (by rw [ep]; omega)
    · exact sF em ⟨rfl, rfl, em⟩
  rintro σ H1 ⟨rfl, rfl, em⟩
  refine ⟨fun σ H' => σ = [some (.ref l), some (.ref p), some (.ref a2), some (.int (e + 1 : Nat)), none, none] ∧ H = H' ∧ pt.hd ≠ "node", ?_, ?_⟩
  · refine vTx rfl hs2 (atI_nat (j := 0) rfl) ⟨rfl, _, rfl, ?_⟩
    by_cases en : pt.hd = "node"
    · obtain ⟨cn, ts, rfl⟩ := Tm.of_node en
      have dp0 := dp
      unfold Tm.d at dp
      obtain ⟨a3, x3, y3, z3, e3, hs3, k1, k2, k3⟩ := Dt.t3 dp
      cases e3
      obtain rfl := k2.s
      obtain ⟨a4, ys4, rfl, hs4, da4⟩ := Dt.tn k3
      rw [Tm.ds_map] at da4
      have l4 : ys4.length = ts.length := by rw [da4.lenD, List.length_map]
      cases op with
      | atom h => exact h.elim
      | node hx hl hb hk =>
      rename_i y
      have yok := LP.ok.ck.ok y hx
      have har := yok.ar
      refine sT en (vTx rfl hs3 (atI_nat (j := 1) rfl) (vTx rfl hs3 (atI_nat (j := 2) rfl) ⟨a4, rfl, ⟨_, hs4⟩, fun D hD => ?_⟩))
      have nD := P0.ne hD
      refine lc_it (walk_tup (K := K) (xs := ys4)) (fun i H' => ∃ (vs : List V) (ks : List Tm), Ext l c H H' ∧ H' D = some (.lst vs) ∧ DtAll K H' vs (ks.map Tm.d) ∧ ks.length = i ∧ (∀ (j : Nat) (k pk : Tm), ks[j]? = some k → ts[j]? = some pk → k.size ≤ pk.size + (pwd pk).length * sG e) ∧ ∀ k ∈ ks, Gr cs ns false k ∧ ∃ pk ∈ ts, k.ht ≤ pk.ht + hG e)
        ⟨[], [], (Ext.refl P0).new P0 hD, upd_same, .nil, rfl, fun j k pk h => by simp at h, fun k h => absurd h List.not_mem_nil⟩ (fun i H' _ h => by obtain ⟨_, _, x, _⟩ := h; exact x.seqT P0 hs4) ?_ ?_
      · rintro i x H1 H1' hi ⟨vs, ks, x1, hD1, dk, lk, sz, gk⟩ ⟨rfl, gx⟩
        obtain ⟨dd, gd, dx⟩ := da4.getX gx
        rw [List.getElem?_map] at gd
        cases e0 : ts[i]? with
        | none => rw [e0] at gd; cases gd
        | some pk =>
        rw [e0] at gd
        cases gd
        have mk := List.mem_of_getElem? e0
        have hpk := Tm.ht_kid (t := .node y.nm ts) mk
        refine ⟨rfl, yes_ ⟨_, rfl, _, rfl, _, rfl, _, rfl, l, c, p, an, cs, ns, rs, x, pk, _, e + 1, rfl, LP.ext x1, dx.ext P0 x1, hk i pk e0, by omega, by omega, dn, fun H2 v t x2 dv g hh hs => ?_⟩⟩
        have hD2 := x2.keep _ _ nD.1 hD1
        have lvs : vs.length = ks.length := by rw [dk.lenD, List.length_map]
        refine ⟨vs, hD2, smallL (by omega), vs ++ [v], ks ++ [t], (x1.trans x2).upd P0 hD, upd_same, ?_, ?_, fun j k pk2 h1 h2 => ?_, fun k hk2 => ?_⟩
        · rw [List.map_append]
          exact ((dk.ext x1.pool x2).append (.cons dv .nil)).upd hD2
        · rw [List.length_append, lk]; rfl
        · by_cases hj : j < ks.length
          · rw [List.getElem?_append_left hj] at h1; exact sz j k pk2 h1 h2
          · have hlt := (List.getElem?_eq_some_iff.mp h1).1
            rw [List.length_append] at hlt
            have hlt : j < ks.length + 1 := hlt
            have ej : j = i := by omega
            subst ej
            rw [List.getElem?_append_right (by omega), show j - ks.length = 0 by omega] at h1
            cases h1
            rw [e0] at h2; cases h2
            exact hs
        · rcases List.mem_append.mp hk2 with h | h
          · exact gk k h
          · rw [List.mem_singleton.mp h]; exact ⟨g, pk, mk, hh⟩
      · rintro H1 ⟨vs, ks, x1, hD1, dk, lk, sz, gk⟩
        rw [l4] at lk
        have lvs : vs.length = ks.length := by rw [dk.lenD, List.length_map]
        refine ⟨D, _, rfl, .inl ⟨SqL.of hD1, fun tt htt => ⟨three _ _ _, fun tn htn => ?_⟩⟩⟩
        have y1 := (Ext.refl x1.pool).new (o := .tup vs) x1.pool htt
        have d1 : Dt K (upd H1 tt (.tup vs)) (.ref tt) (.tuple (ks.map Tm.d)) := .tup (SqT.of upd_same) (dk.ext x1.pool y1)
        refine q _ _ (.node y.nm ks) ((x1.trans y1).new P0 htn) ?_ (.node hx (by omega) (fun z => nomatch z) fun i k h => (gk k (List.mem_of_getElem? h)).1) ?_ ?_
        · unfold Tm.d
          rw [Tm.ds_map]
          exact Dt.mk3 htn (.str _) (.str _) d1
        · have := Tm.ht_le (t := .node y.nm ks) (n := (Tm.node y.nm ts).ht - 1 + hG e) fun k hk2 => by
            obtain ⟨_, pk, mk, hh⟩ := gk k hk2
            have := Tm.ht_kid (t := .node y.nm ts) mk
            omega
          omega
        · have := szsum (sG e) ks ts lk sz
          rw [Tm.size_eq, Tm.size_eq (.node y.nm ts), pwd_node]
          show 1 + (ks.map Tm.size).sum ≤ 1 + (ts.map Tm.size).sum + _
          omega
    · exact sF en ⟨rfl, rfl, en⟩
  rintro σ H1 ⟨rfl, rfl, en⟩
  refine ⟨_, rfl, q H _ pt (Ext.refl P0) dp (.atom ?_) (by omega) (by have := Nat.zero_le ((pwd pt).length * sG e); omega)⟩
  cases op with
  | atom h => exact h
  | var => exact absurd rfl em
  | node => exact absurd rfl en
theorem ok_ground {n lv : Nat} {f : Addr} {fd : FuncData} (F : Fun K "_law_ground" "_law_ground" s_law_ground f fd) (T : Txt K mg) (l5 : 4 ≤ lv) (C_law_take : C8.Cal P w K mg base 2 "_law_take" (spTake 2) []) (C_law_pick : C8.Cal P w K mg base 3 "_law_pick" (spPickS K) []) (C_law_atom : C8.Cal P w K mg base 4 "_law_atom" (spAtom K) []) (C_law_ground : C8.Cal P w K mg base lv "_law_ground" (spGr K n) [])
    (C_law_filled : C8.Cal P w K mg base (lv + 5) "_law_filled" (spFill K n 5) []) : FnOk P w K mg base CX0 (lv + 6) f fd ["pool", "language", "is_worth", "depth"] (spGr K (n + 1)) := by
  refine F.ok sc_law_ground (fun vs H Q E h => ?_) (fun cdv A outer s H vs Q E hr hh => ?_)
  · obtain ⟨_, _, _, _, _, _, _, _, _, rfl, _⟩ := h
    rfl
  obtain ⟨l, c, p, an, cs, ns, rs, b, d, rfl, LP, hd, q⟩ := hh
  refine ⟨_, (pss_cons (ps_set (i := 4) sc_law_ground.nd rfl (Or.inl rfl) (C8.pe_c C_law_take hr (by omega) rfl (pa_cons (pv 0) (pa_cons pe_int pa_nil))))
    (C8.pss_cut (ps_if (PW.pt (pw_or (pt_cmpR op_lt (pv 4) pe_int (nomark _)) (pw_or1 (pt_cmpR op_lt (pv 3) pe_int (nomark _))))) (pss_one (ps_ret (C8.pe_c C_law_atom hr (by omega) rfl (pa_cons (pv 0) (pa_cons (pe_dget (hu_of hr) (pv 1) pe_str (fun _ _ => rfl)) pa_nil))))) pss_nil)
    (C8.pss_cut (ps_if (pt_cmpR op_eq (pv 4) pe_int (nomark _)) (pss_cons (ps_setLc (i := 5) (own := [("name", 11)]) (g := (gName 11)) (by rfl) sc_law_ground.nd rfl rfl (sw_true rfl rfl rfl (by decide +kernel)) (pi_list (pe_callB cr_sortedS (by rfl) T.z_sorted (by decide +kernel) (pa_cons (pe_dget (hu_of hr) (pv 1) pe_str (fun _ _ => rfl)) pa_nil))) (blkOk_by (N := ["pool", "language", "is_worth", "depth", "kind", "names", "rule", "row", "rows", "parts", "place", "name"]) (sc := defScope s_law_ground) (by decide +kernel)) (fun _ _ _ _ _ => (pg_name (i := 11) sc_law_ground.nd rfl (Or.inl rfl))) (fun _ _ _ _ _ => pts_one (pt_cmpR op_eq (C8.pe_c C_law_take hr (by omega) rfl (pa_cons (pv 0) (pa_cons pe_int pa_nil))) pe_int (nomark _))) (fun _ _ _ _ _ => (pv 11)))
    (pss_one (ps_ret (pe_tup (pa_cons pe_str (pa_cons (pe_callTy call_tuple_of (by rfl) T.z_tuple (by decide +kernel) (pa_cons (pe_lc (own := [("name", 11)]) (g := (gName 11)) (tt := tYes) (by rfl) sc_law_ground.nd (pi_list (pv 5)) (blkOk_by (N := ["pool", "language", "is_worth", "depth", "kind", "names", "rule", "row", "rows", "parts", "place", "name"]) (sc := defScope s_law_ground) (by decide +kernel)) (fun _ _ _ _ _ => (pg_name (i := 11) sc_law_ground.nd rfl (Or.inl rfl))) (fun _ _ _ _ _ => pts_nil) (fun _ _ _ _ _ => (pe_tup (pa_cons (pv 11) (pa_cons (C8.pe_c C_law_ground hr (by omega) rfl (pa_cons (pv 0) (pa_cons (pv 1) (pa_cons pe_bl (pa_cons (pe_op op_sub (pv 3) pe_int) pa_nil))))) pa_nil))))) pa_nil)) pa_nil)))))) pss_nil)
    (C8.pss_cut (ps_if (PW.pt (pw_and (pt_cmpR op_gt (pv 4) pe_int (nomark _)) (pw_and (pt_truth (pe_dget (hu_of hr) (pv 1) pe_str (fun _ _ => rfl)) (by intro _; rfl)) (pw_and1 (pt_not (pt_val (pv 2))))))) (pss_cons (ps_set (i := 6) sc_law_ground.nd rfl (Or.inl rfl) (C8.pe_c C_law_pick hr (by omega) rfl (pa_cons (pv 0) (pa_cons (pe_dget (hu_of hr) (pv 1) pe_str (fun _ _ => rfl)) pa_nil))))
    (pss_one (ps_ret (C8.pe_c C_law_filled hr (by omega) rfl (pa_cons (pv 0) (pa_cons (pv 1) (pa_cons (pe_ix ix_tup (pv 6) pe_int (fun _ _ => rfl)) (pa_cons (pv 3) pa_nil)))))))) pss_nil)
    (pss_cons (ps_setLc (i := 8) (own := [("row", 7)]) (g := (gName 7)) (by rfl) sc_law_ground.nd rfl rfl (sw_true rfl rfl rfl (by decide +kernel)) (pi_tup (pe_dget (hu_of hr) (pv 1) pe_str (fun _ _ => rfl))) (blkOk_by (N := ["pool", "language", "is_worth", "depth", "kind", "names", "rule", "row", "rows", "parts", "place", "name"]) (sc := defScope s_law_ground) (by decide +kernel)) (fun _ _ _ _ _ => (pg_name (i := 7) sc_law_ground.nd rfl (Or.inl rfl))) (fun _ _ _ _ _ => pts_one (PW.pt (pw_or (pt_cmpR op_eq (pe_ix (r := rIxT K) ix_tup (pv 7) pe_int (fun _ _ => rfl)) pe_str (nomark _)) (pw_or1 (pt_not (pt_val (pv 2))))))) (fun _ _ _ _ _ => (pv 7)))
    (pss_cons (ps_set (i := 7) sc_law_ground.nd rfl (Or.inr rfl) (C8.pe_c C_law_pick hr (by omega) rfl (pa_cons (pv 0) (pa_cons (pv 8) pa_nil))))
    (pss_cons (ps_setLc (i := 9) (own := [("place", 10)]) (g := (gName 10)) (tt := tYes) (by rfl) sc_law_ground.nd rfl rfl (sw_true rfl rfl rfl (by decide +kernel)) (pi_range1 (by rfl) T.z_range (pa_cons (pe_ix ix_tup (pv 7) pe_int (fun _ _ => rfl)) pa_nil)) (blkOk_by (N := ["pool", "language", "is_worth", "depth", "kind", "names", "rule", "row", "rows", "parts", "place", "name"]) (sc := defScope s_law_ground) (by decide +kernel)) (fun _ _ _ _ _ => (pg_name (i := 10) sc_law_ground.nd rfl (Or.inl rfl))) (fun _ _ _ _ _ => pts_nil) (fun _ _ _ _ _ => (C8.pe_c C_law_ground hr (by omega) rfl (pa_cons (pv 0) (pa_cons (pv 1) (pa_cons (pe_and (pv 2) (pe_one (pe_cmpR (r := rIn K false) op_in_seq (pv 10) (pe_ix (r := rIxT K) ix_tup (pv 7) pe_int (fun _ _ => rfl)) rfl))) (pa_cons (pe_op op_sub (pv 3) pe_int) pa_nil)))))))
    (pss_one (ps_ret (pe_tup (pa_cons pe_str (pa_cons (pe_ix ix_tup (pv 7) pe_int (fun _ _ => rfl)) (pa_cons (pe_callTy call_tuple_of (by rfl) T.z_tuple (by decide +kernel) (pa_cons (pv 9) pa_nil)) pa_nil))))))))))))), ?_⟩
  have two : ∀ x y : V, [x, y].length ≤ sizeLine := fun x y => small (by show 2 ≤ _; decide)
  have three : ∀ x y z : V, [x, y, z].length ≤ sizeLine := fun x y z => small (by show 3 ≤ _; decide)
  have P0 := LP.pool
  have L0 := LP.ok
  refine vTake rfl P0 (by decide) (by decide) fun k H1 k0 k1 x1 => ?_
  have LP1 := LP.ext x1
  have P1 := x1.pool
  obtain ⟨gn, ⟨pr, gr, drr⟩, ⟨pu, gu, dru⟩, _⟩ := LP1.at_.g
  refine ⟨fun σ H' => σ = [some (.ref l), some (.ref p), some (.bl b), some (.int (d : Nat)), some (.int k), none, none, none, none, none, none, none] ∧ H1 = H' ∧ 1 ≤ d, ?_, ?_⟩
  · have at_ : ∀ E, spAtom K [.ref l, .ref an] H1 (fun v H' => Q v H') E := fun E => ⟨l, c, an, ns, rfl, P1, LP1.nm, fun v t H2 x2 dv oa => q H2 v t (x1.trans x2) dv (.atom oa) (by rw [(Tm.ht1 oa.kids).1]; unfold hG; omega) (by rw [(Tm.ht1 oa.kids).2]; exact sG_pos d)⟩
    refine ⟨_, rfl, _, _, rfl, rfl, _, rfl, ite2 (fun _ => iteT ⟨_, rfl, _, rfl, p, _, rfl, gn, at_ (fun _ _ _ => False)⟩) (fun z1 => ⟨_, rfl, _, _, rfl, rfl, _, rfl, ite2 (fun _ => ⟨_, rfl, _, rfl, p, _, rfl, gn, at_ (fun _ _ _ => False)⟩) (fun z2 => ⟨rfl, rfl, ?_⟩)⟩)⟩
    have : ¬ ((d : Int) < 1) := fun y => z2 (decide_eq_true y)
    omega
  rintro σ H' ⟨rfl, rfl, d1⟩
  obtain ⟨e, rfl⟩ : ∃ e, d = e + 1 := ⟨d - 1, by omega⟩
  have ed : V.int (((e + 1 : Nat) : Int) - 1) = .int (e : Nat) := by simp
  have eG : hG (e + 1) = 4 + hG e := by unfold hG; omega
  have eS : sG (e + 1) = 40 + 6 * sG e := rfl
  have gpos := sG_pos e
  -- a map
  refine ⟨fun σ H' => σ = [some (.ref l), some (.ref p), some (.bl b), some (.int (e + 1 : Nat)), some (.int k), none, none, none, none, none, none, none] ∧ H1 = H', ?_, ?_⟩
  · refine ⟨_, rfl, rfl, _, rfl, ite2 (fun _ => ?_) (fun _ => ⟨rfl, rfl⟩)⟩
    refine ⟨_, rfl, p, _, rfl, gn, an, ns, rfl, SqL.of LP1.nm.at_, by have := LP1.nm.le; omega, fun ys sp pm sr hsp => ⟨sp, rfl, ⟨_, SqL.of upd_same⟩, fun D hD => ?_⟩⟩
    have x2 := (Ext.refl P1).new (o := .lst (ys.map V.str)) P1 hsp
    have nsp : sp ≠ l := (P1.ne hsp).1
    have hs2 : (upd H1 sp (.lst (ys.map V.str))) sp = some (.lst (ys.map V.str)) := upd_same
    generalize upd H1 sp (HO.lst (ys.map V.str)) = H2 at *
    have P2 := x2.pool
    have nD := P2.ne hD
    have lys : ys.length ≤ 3 := by rw [pm.length_eq]; exact L0.nl.2
    refine lc_it (walk_list (K := K) (xs := ys.map V.str)) (fun i H' => ∃ xs : List Str, Ext l c H2 H' ∧ H' D = some (.lst (xs.map V.str)) ∧ xs.Sublist (ys.take i)) ⟨[], (Ext.refl P2).new P2 hD, upd_same, by simp⟩ (fun i H' _ h => by obtain ⟨_, x, _⟩ := h; exact SqL.of (x.keep _ _ nsp hs2)) ?_ ?_
    · rintro i x H3 H3' hi ⟨xs, x3, hD3, sl⟩ ⟨rfl, gx⟩
      rw [List.getElem?_map] at gx
      cases e0 : ys[i]? with
      | none => rw [e0] at gx; cases gx
      | some y =>
      rw [e0] at gx
      cases gx
      refine ⟨rfl, vTake rfl x3.pool (by decide) (by decide) fun j H4 j0 j1 x4 => ⟨rfl, _, rfl, ite2 (fun _ => ?_) (fun _ => ?_)⟩⟩
      · refine ⟨_, rfl, _, x4.keep _ _ nD.1 hD3, smallL (by rw [List.length_map]; have := sl.length_le; rw [List.length_take] at this; omega), xs ++ [y], (x3.trans x4).upd P2 hD, by rw [upd_same, List.map_append]; rfl, ?_⟩
        rw [take_snoc e0]; exact sl.append (List.Sublist.refl _)
      · exact ⟨xs, x3.trans x4, x4.keep _ _ nD.1 hD3, by rw [take_snoc e0]; exact sl.trans (List.sublist_append_left _ _)⟩
    · rintro H3 ⟨xs, x3, hD3, sl⟩
      rw [List.length_map, List.take_length] at sl
      have x03 := x1.trans (x2.trans x3)
      refine ⟨_, rfl, D, rfl, ⟨_, SqL.of hD3⟩, fun D2 hD2 => ?_⟩
      have P3 := x3.pool
      have nD2 := P3.ne hD2
      have lxs : xs.length ≤ 3 := by have := sl.length_le; omega
      refine lc_it (walk_list (K := K) (xs := xs.map V.str)) (fun i H' => ∃ (vs : List V) (es : List (Str × Tm)), Ext l c H3 H' ∧ H' D2 = some (.lst vs) ∧ DtAll K H' vs (es.map Tm.ent) ∧ es.map Prod.fst = xs.take i ∧ ∀ z ∈ es, Gr cs ns true z.2 ∧ z.2.ht ≤ hG e ∧ z.2.size ≤ sG e) ⟨[], [], (Ext.refl P3).new P3 hD2, upd_same, .nil, by simp, fun z h => absurd h List.not_mem_nil⟩ (fun i H' _ h => by obtain ⟨_, _, x, _⟩ := h; exact SqL.of (x.keep _ _ nD.1 hD3)) ?_ ?_
      · rintro i x H4 H4' hi ⟨vs, es, x4, hD4, d4, en, g4⟩ ⟨rfl, gx⟩
        rw [List.getElem?_map] at gx
        cases e0 : xs[i]? with
        | none => rw [e0] at gx; cases gx
        | some y =>
        rw [e0] at gx
        cases gx
        refine ⟨rfl, yes_ ⟨_, rfl, _, rfl, _, rfl, _, rfl, _, _, rfl, rfl, l, c, p, an, cs, ns, rs, true, e, by show [V.ref l, .ref p, _, .int (((e + 1 : Nat) : Int) - 1)] = _; rw [ed], LP.ext (x03.trans x4), by omega, fun H5 v t x5 dv g hh hs => ⟨two _ _, fun u hu => ?_⟩⟩⟩
        have x6 := x5.new (o := .tup [.str y, v]) x4.pool hu
        have hD6 := x6.keep _ _ nD2.1 hD4
        have lvs : vs.length = es.length := by rw [d4.lenD, List.length_map]
        have les : es.length = (xs.take i).length := by rw [← en, List.length_map]
        rw [List.length_take] at les
        refine ⟨vs, hD6, smallL (by omega), vs ++ [.ref u], es ++ [(y, t)], (x4.trans x6).upd P3 hD2, upd_same, ?_, ?_, fun z hz => ?_⟩
        · rw [List.map_append]
          exact ((d4.ext x4.pool x6).append (.cons (Dt.mk2 hu (.str _) dv) .nil)).upd hD6
        · rw [List.map_append, en, take_snoc e0]; rfl
        · rcases List.mem_append.mp hz with h | h
          · exact g4 z h
          · rw [List.mem_singleton.mp h]; exact ⟨g, hh, hs⟩
      · rintro H4 ⟨vs, es, x4, hD4, d4, en, g4⟩
        rw [List.length_map, List.take_length] at en
        refine ⟨D2, vs, rfl, .inl ⟨SqL.of hD4, fun u hu => ⟨two _ _, fun t ht => ?_⟩⟩⟩
        have x5 := (Ext.refl x4.pool).new (o := .tup vs) x4.pool hu
        have les : es.length = xs.length := by rw [← en, List.length_map]
        have lyn : ys.length = ns.length := pm.length_eq
        have kd : ∀ kk ∈ (Tm.map es).kids, kk.ht ≤ hG e ∧ kk.size ≤ sG e := fun kk hk => by
          obtain ⟨z, hz, rfl⟩ := List.mem_map.mp (show kk ∈ es.map Prod.snd from hk)
          exact (g4 z hz).2
        refine q _ _ (.map es) (((x03.trans x4).trans x5).new P0 ht) ?_ (.map (by rw [en]; exact sl.nodup (pm.nodup_iff.mpr L0.nd)) (fun x hx => ?_) (by have := sl.length_le; omega) fun x hx => (g4 x hx).1) ?_ ?_
        · unfold Tm.d
          rw [Tm.es_map]
          exact Dt.mk2 ht (.str _) (.tup (SqT.of upd_same) (d4.ext x4.pool x5))
        · have : x.1 ∈ xs := by rw [← en]; exact List.mem_map.mpr ⟨x, hx, rfl⟩
          exact pm.mem_iff.mp (sl.subset this)
        · have := Tm.ht_le (t := .map es) fun kk hk => (kd kk hk).1
          omega
        · have := szle (sG e) (Tm.map es).kids fun kk hk => (kd kk hk).2
          have lk : (Tm.map es).kids.length ≤ 3 := by show (es.map Prod.snd).length ≤ 3; rw [List.length_map]; omega
          have h2 : (Tm.map es).kids.length * sG e ≤ 3 * sG e := Nat.mul_le_mul_right _ lk
          rw [Tm.size_eq]
          omega
  rintro σ H' ⟨rfl, rfl⟩
  -- a pattern, filled
  refine ⟨fun σ H' => σ = [some (.ref l), some (.ref p), some (.bl b), some (.int (e + 1 : Nat)), some (.int k), none, none, none, none, none, none, none] ∧ H1 = H', ?_, ?_⟩
  · obtain ⟨pu2, ru, epu, hru, dru2⟩ := Dt.tn dru
    cases epu
    have lru : ru.length = rs.length := by rw [dru2.lenD, List.length_map]
    refine ⟨_, rfl, _, _, rfl, rfl, _, rfl, ite2 (fun _ => ⟨_, rfl, p, _, rfl, gu, _, .inr (.inl ⟨_, hru, rfl⟩), ?_⟩) (fun _ => iteF ⟨rfl, rfl⟩)⟩
    cases ru with
    | nil => exact iteF (iteF ⟨rfl, rfl⟩)
    | cons ru0 rur =>
    refine iteT ⟨_, rfl, b, rfl, ?_⟩
    cases b with
    | true => exact iteF ⟨rfl, rfl⟩
    | false =>
    refine iteT ⟨_, rfl, _, rfl, p, _, rfl, gu, .inr ⟨l, c, pu, _, rfl, P1, hru, by simp, by have := L0.rl; omega, fun H2 i x x2 gx => ?_⟩⟩
    obtain ⟨dd, gd, dx⟩ := (dru2.ext P1 x2).getX gx
    rw [List.getElem?_map] at gd
    cases e0 : rs[i]? with
    | none => rw [e0] at gd; cases gd
    | some r =>
    rw [e0] at gd
    cases gd
    obtain ⟨a5, y2, y3, y4, y5, rfl, hs5, dp, _⟩ := Rl.get5 dx
    obtain ⟨ms, _, lms, _, okr⟩ := L0.ms
    have ro := okr r (List.mem_of_getElem? e0)
    have hpt := ro.pat.ht
    have lpw : (pwd r.pat).length ≤ 6 := by
      obtain ⟨f1, f2, e1, e2⟩ := ro.fr
      have := congrArg List.length e1
      rw [List.length_append, List.length_reverse] at this
      omega
    refine ⟨_, rfl, _, rfl, vTx rfl hs5 (atI_nat (j := 1) rfl) ⟨_, rfl, l, c, p, an, cs, ns, rs, y2, r.pat, false, e + 1, rfl, LP1.ext x2, dp, ro.pat.ok, by omega, by omega, by omega, fun H3 v t x3 dv g hh hs => ?_⟩⟩
    have hh : t.ht ≤ r.pat.ht + hG e := hh
    have hs : t.size ≤ r.pat.size + (pwd r.pat).length * sG e := hs
    have hsz := PatOk.size L0.ck 4 false r.pat ro.pat.ok hpt
    have h40 : sP 4 = 40 := rfl
    have hm : (pwd r.pat).length * sG e ≤ 6 * sG e := Nat.mul_le_mul_right _ lpw
    exact q H3 v t ((x1.trans x2).trans x3) dv g (by omega) (by omega)
  rintro σ H' ⟨rfl, rfl⟩
  obtain ⟨pr2, cv, epr, hcv, dcv⟩ := Dt.tn drr
  cases epr
  have lcv : cv.length = cs.length := by rw [dcv.lenD, List.length_map]
  have lcs := L0.ck.le
  refine ⟨_, rfl, p, _, rfl, gr, pr, rfl, ⟨_, hcv⟩, fun D hD => ?_⟩
  have nD := P1.ne hD
  refine lc_it (walk_tup (K := K) (xs := cv)) (fun i H' => ∃ (vs : List V) (xs : List Con), Ext l c H1 H' ∧ H' D = some (.lst vs) ∧ DtAll K H' vs (xs.map Con.d) ∧ xs.length ≤ i ∧ (∀ x ∈ xs, x ∈ cs ∧ (b = true → x.kd = ("value" : Str))) ∧ ∀ y ∈ cs.take i, y.kd = ("value" : Str) → y ∈ xs) ⟨[], [], (Ext.refl P1).new P1 hD, upd_same, .nil, Nat.le_refl _, fun x h => absurd h List.not_mem_nil, fun x h => by simp at h⟩ (fun i H' _ h => by obtain ⟨_, _, x, _⟩ := h; exact x.seqT P1 hcv) ?_ ?_
  · rintro i x H2 H2' hi ⟨vs, xs, x2, hD2, d2, lx, ox, ax⟩ ⟨rfl, gx⟩
    obtain ⟨dd, gd, dx⟩ := dcv.getX gx
    rw [List.getElem?_map] at gd
    cases e0 : cs[i]? with
    | none => rw [e0] at gd; cases gd
    | some y =>
    rw [e0] at gd
    cases gd
    have my := List.mem_of_getElem? e0
    have dx2 := dx.ext P1 x2
    obtain ⟨a, bb, rfl, hs, _⟩ := Con.get4 dx2
    have lvs : vs.length = xs.length := by rw [d2.lenD, List.length_map]
    have yes : (b = true → y.kd = ("value" : Str)) → ∃ acc, H2' D = some (.lst acc) ∧ acc.length < sizeLine ∧ ∃ (vs : List V) (xs : List Con), Ext l c H1 (upd H2' D (.lst (acc ++ [.ref a]))) ∧ (upd H2' D (.lst (acc ++ [.ref a]))) D = some (.lst vs) ∧ DtAll K (upd H2' D (.lst (acc ++ [.ref a]))) vs (xs.map Con.d) ∧ xs.length ≤ i + 1 ∧ (∀ x ∈ xs, x ∈ cs ∧ (b = true → x.kd = ("value" : Str))) ∧ ∀ y ∈ cs.take (i + 1), y.kd = ("value" : Str) → y ∈ xs := fun hb => by
      refine ⟨vs, hD2, smallL (by omega), vs ++ [.ref a], xs ++ [y], x2.upd P1 hD, upd_same, ?_, by rw [List.length_append]; show _ + 1 ≤ _; omega, fun z hz => ?_, fun z hz kz => ?_⟩
      · rw [List.map_append]
        exact (d2.append (.cons dx2 .nil)).upd hD2
      · rcases List.mem_append.mp hz with h | h
        · exact ox z h
        · rw [List.mem_singleton.mp h]; exact ⟨my, hb⟩
      · rw [take_snoc e0] at hz
        rcases List.mem_append.mp hz with h | h
        · exact List.mem_append.mpr (.inl (ax z h kz))
        · exact List.mem_append.mpr (.inr h)
    refine ⟨rfl, vTx rfl hs (atI_nat (j := 2) rfl) ⟨rfl, _, rfl, ?_⟩⟩
    by_cases ek : y.kd = ("value" : Str)
    · exact sT ek (iteT ⟨_, rfl, yes fun _ => ek⟩)
    · refine sF ek ⟨_, rfl, b, rfl, ?_⟩
      cases b with
      | true =>
        refine iteF ⟨vs, xs, x2, hD2, d2, by omega, ox, fun z hz kz => ?_⟩
        rw [take_snoc e0] at hz
        rcases List.mem_append.mp hz with h | h
        · exact ax z h kz
        · rw [List.mem_singleton.mp h] at kz; exact absurd kz ek
      | false => exact iteT ⟨_, rfl, yes fun z => nomatch z⟩
  rintro H2 ⟨vs, xs, x2, hD2, d2, lx, ox, ax⟩
  rw [lcv, List.take_length] at ax
  have lvs : vs.length = xs.length := by rw [d2.lenD, List.length_map]
  have nx : xs ≠ [] := fun z => by
    obtain ⟨y, hy, ky⟩ := L0.ck.va
    have := ax y hy ky
    rw [z] at this; cases this
  refine ⟨_, rfl, _, rfl, .inl ⟨l, c, D, vs, rfl, x2.pool, nD.1, hD2, (fun z => by rw [z] at lvs; exact nx (List.length_eq_zero_iff.mp lvs.symm)), by omega, fun H3 j x x3 gx => ?_⟩⟩
  obtain ⟨dd, gd, dx⟩ := (d2.ext x2.pool x3).getX gx
  rw [List.getElem?_map] at gd
  cases e0 : xs[j]? with
  | none => rw [e0] at gd; cases gd
  | some y =>
  rw [e0] at gd
  cases gd
  obtain ⟨a, bb, rfl, hs, hb2⟩ := Con.get4 dx
  obtain ⟨hyc, hyk⟩ := ox y (List.mem_of_getElem? e0)
  have har := (L0.ck.ok y hyc).ar
  have P3 := x3.pool
  have x03 := x1.trans (x2.trans x3)
  refine vTx rfl hs (atI_nat (j := 1) rfl) ⟨_, rfl, by omega, by omega, fun D2 hD2n => ?_⟩
  have nD2 := P3.ne hD2n
  refine lc_range (lo := 0) (n := ((y.ar : Nat) : Int).toNat) (fun i H' => ∃ (vs : List V) (ts : List Tm), Ext l c H3 H' ∧ H' D2 = some (.lst vs) ∧ DtAll K H' vs (ts.map Tm.d) ∧ ts.length = i ∧ (∀ (j : Nat) (k : Tm), ts[j]? = some k → Gr cs ns (b && decide ((j : Int) ∈ y.pl)) k) ∧ ∀ k ∈ ts, k.ht ≤ hG e ∧ k.size ≤ sG e) ⟨[], [], (Ext.refl P3).new P3 hD2n, upd_same, .nil, rfl, fun j k h => by simp at h, fun k h => absurd h List.not_mem_nil⟩ ?_ ?_
  · rintro i H4 hi ⟨vs, ts, x4, hD4, d4, lt, gk, bk⟩
    have lv4 : vs.length = ts.length := by rw [d4.lenD, List.length_map]
    have call : ∀ (b' : Bool) (Q' : VK) (E' : XK), b' = (b && decide ((i : Int) ∈ y.pl)) → (∀ (v : V) (H5 : Hp), (∃ acc, H5 D2 = some (.lst acc) ∧ acc.length < sizeLine ∧ ∃ (vs : List V) (ts : List Tm), Ext l c H3 (upd H5 D2 (.lst (acc ++ [v]))) ∧ (upd H5 D2 (.lst (acc ++ [v]))) D2 = some (.lst vs) ∧ DtAll K (upd H5 D2 (.lst (acc ++ [v]))) vs (ts.map Tm.d) ∧ ts.length = i + 1 ∧ (∀ (j : Nat) (k : Tm), ts[j]? = some k → Gr cs ns (b && decide ((j : Int) ∈ y.pl)) k) ∧ ∀ k ∈ ts, k.ht ≤ hG e ∧ k.size ≤ sG e) → Q' v H5) →
        spGr K n [.ref l, .ref p, .bl b', .int (((e + 1 : Nat) : Int) - 1)] H4 Q' E' := fun b' Q' E' eb qq => by
      subst eb
      refine ⟨l, c, p, an, cs, ns, rs, _, e, by rw [ed], LP.ext (x03.trans x4), by omega, fun H5 v t x5 dv g hh hsz => qq v H5 ?_⟩
      have hD5 := x5.keep _ _ nD2.1 hD4
      refine ⟨vs, hD5, smallL (by omega), vs ++ [v], ts ++ [t], (x4.trans x5).upd P3 hD2n, upd_same, ?_, by rw [List.length_append, lt]; rfl, fun j k hj => ?_, fun k hk => ?_⟩
      · rw [List.map_append]
        exact ((d4.ext x4.pool x5).append (.cons dv .nil)).upd hD5
      · by_cases hlt : j < ts.length
        · rw [List.getElem?_append_left hlt] at hj; exact gk j k hj
        · have h1 := (List.getElem?_eq_some_iff.mp hj).1
          rw [List.length_append] at h1
          have h1 : j < ts.length + 1 := h1
          have ej : j = i := by omega
          subst ej
          rw [List.getElem?_append_right (by omega), show j - ts.length = 0 by omega] at hj
          cases hj
          exact g
      · rcases List.mem_append.mp hk with h | h
        · exact bk k h
        · rw [List.mem_singleton.mp h]; exact ⟨hh, hsz⟩
    have hs4 : SqT K H4 a _ := x4.seqT P3 hs
    have hb4 : SqT K H4 bb (y.pl.map .int) := x4.seqT P3 hb2
    cases b with
    | false => exact ⟨rfl, yes_ ⟨_, rfl, _, rfl, _, rfl, false, rfl, iteF ⟨_, rfl, _, _, rfl, rfl, call false _ (fun _ _ _ => False) (by simp) fun v H5 h => h⟩⟩⟩
    | true =>
      refine ⟨rfl, yes_ ⟨_, rfl, _, rfl, _, rfl, true, rfl, iteT ⟨_, rfl, vTx rfl hs4 (atI_nat (j := 3) rfl) ⟨bb, _, rfl, .inr hb4, rfl, flat_ints _, ?_⟩⟩⟩⟩
      rw [inV_int]
      exact ⟨_, rfl, _, _, rfl, rfl, call _ _ (fun _ _ _ => False) (by rw [Bool.true_and, show (0 : Int) + (i : Int) = (i : Int) by omega]; rfl) fun v H5 h => h⟩
  · rintro H4 ⟨vs, ts, x4, hD4, d4, lt, gk, bk⟩
    have lt : ts.length = y.ar := by rw [lt]; omega
    have hs4 : SqT K H4 a _ := x4.seqT P3 hs
    refine vTx rfl hs4 (atI_nat (j := 0) rfl) ⟨_, rfl, D2, vs, rfl, .inl ⟨SqL.of hD4, fun u hu => ⟨three _ _ _, fun t ht => ?_⟩⟩⟩
    have x5 := (Ext.refl x4.pool).new (o := .tup vs) x4.pool hu
    refine q _ _ (.node y.nm ts) (((x03.trans x4).trans x5).new P0 ht) ?_ (.node hyc lt hyk gk) ?_ ?_
    · unfold Tm.d
      rw [Tm.ds_map]
      exact Dt.mk3 ht (.str _) (.str _) (.tup (SqT.of upd_same) (d4.ext x4.pool x5))
    · have := Tm.ht_le (t := .node y.nm ts) fun k hk => (bk k hk).1
      omega
    · have h1 := szle (sG e) ts fun k hk => (bk k hk).2
      have h2 : ts.length * sG e ≤ 3 * sG e := Nat.mul_le_mul_right _ (by omega)
      rw [Tm.size_eq]
      show 1 + (ts.map Tm.size).sum ≤ _
      omega
end
end PK
namespace PK
open PySem L2
/-! putting terms for words -/
/-- the dict tells what the row tells, and no more of words -/
def BindE (K : PySem.W.Frag) (H : Hp) (kvs : List (Key × V)) (tab : Tab) : Prop := ∀ s, (∀ t, lookA tab s = some t → ∃ v, valV kvs (.inr s) = some v ∧ Dt K H v t.d) ∧ (lookA tab s = none → valV kvs (.inr s) = none)
theorem BindE.mono {K : PySem.W.Frag} {H H' : Hp} {kvs : List (Key × V)} {tab : Tab} (h : BindE K H kvs tab) (k : ∀ v d, Dt K H v d → Dt K H' v d) : BindE K H' kvs tab := fun s =>
  ⟨fun t e => let ⟨v, e1, e2⟩ := (h s).1 t e; ⟨v, e1, k _ _ e2⟩, (h s).2⟩
theorem lookA_snoc {β : Type} : ∀ (l : List (Str × β)) (k : Str) (v : β) (s : Str), lookA (l ++ [(k, v)]) s = if k = s then some v else lookA l s
  | [], k, v, s => by
    show lookA [(k, v)] s = _
    rw [lookA_cons]; rfl
  | (j, u) :: l, k, v, s => by
    show lookA ((j, u) :: (l ++ [(k, v)])) s = _
    rw [lookA_cons, lookA_cons, lookA_snoc l k v s]
    by_cases e : k = s
    · simp [e]
    · simp [e]
theorem BindE.put {K : PySem.W.Frag} {H : Hp} {kvs : List (Key × V)} {tab : Tab} (h : BindE K H kvs tab) {w : Str} {v : V} {t : Tm} (dv : Dt K H v t.d) : BindE K H (putK kvs (.inr w) v) (tab ++ [(w, t)]) := fun s => by
  rw [lookA_snoc, valV_put]
  by_cases e : w = s
  · subst e
    rw [if_pos rfl, if_pos rfl]
    exact ⟨fun t' et => ⟨v, rfl, by cases et; exact dv⟩, fun z => nomatch z⟩
  · rw [if_neg e, if_neg (fun z => e (Sum.inr.inj z).symm)]
    exact h s
theorem BindE.nil {K : PySem.W.Frag} {H : Hp} : BindE K H [] [] := fun s => ⟨fun t e => (by cases e), fun _ => rfl⟩
def plN (t : Tm) : Prop := t.kids.length ≤ 1000 ∧ (∀ f ts, t ≠ .form f ts) ∧ ∀ es, t ≠ .map es
def spPut (K : PySem.W.Frag) (n : Nat) : Sp := fun vs H Q _ => ∃ (v : V) (tb : Addr) (t : Tm) (kvs : List (Key × V)) (tab : Tab), vs = [v, .ref tb] ∧ Dt K H v t.d ∧ H tb = some (.dK kvs) ∧ BindE K H kvs tab ∧ Al plN t ∧ t.ht ≤ n ∧
  ∀ (H' : Hp) (v' : V), Same H H' → Dt K H' v' (t.fill tab).d → Q v' H'
section
variable {P : Program} {w : World} {K : PySem.W.Frag} {mg : Str → Option Value} {base : Heap}
abbrev s_law_put : Stmt := topS 45
theorem sc_law_put : FnScope ["form", "bindings", "part"] ["form", "bindings"] (defScope s_law_put) := ⟨rfl, rfl, rfl, by decide +kernel, rfl, by decide +kernel, by decide +kernel⟩
-- slots: 0:form 1:bindings(cell) 2:part(comp)
theorem ok_put {n : Nat} {f : Addr} {fd : FuncData} (F : Fun K "_law_put" "_law_put" s_law_put f fd) (T : Txt K mg) (C_law_put : C8.Cal P w K mg base n "_law_put" (spPut K n) []) : FnOk P w K mg base CX0 (n + 1) f fd ["form", "bindings"] (spPut K (n + 1)) := by
  refine F.ok sc_law_put (fun vs H Q E h => ?_) (fun cdv A outer s H vs Q E hr h => ?_)
  · obtain ⟨_, _, _, _, _, rfl, _⟩ := h
    rfl
  obtain ⟨v, tb, t, kvs, tab, rfl, hv, htb, hb, pl, hh, q⟩ := h
  refine ⟨_, (pss_cons (ps_if (PW.pt (pw_and (pt_cmpR op_eq (pe_ix ix_tup (pv 0) pe_int (fun _ _ => rfl)) pe_str (nomark _)) (pw_and1 (pt_cmp (pc_din (hu_of hr) (pe_ix ix_tup (pv 0) pe_int (fun _ _ => rfl)) (pv 1)))))) (pss_one (ps_ret (pe_dget (hu_of hr) (pv 1) (pe_ix ix_tup (pv 0) pe_int (fun _ _ => rfl)) (fun _ _ => rfl)))) pss_nil)
    (pss_cons (ps_if (pt_cmpR op_eq (pe_ix ix_tup (pv 0) pe_int (fun _ _ => rfl)) pe_str (nomark _)) (pss_one (ps_ret (pe_tup (pa_cons pe_str (pa_cons (pe_ix ix_tup (pv 0) pe_int (fun _ _ => rfl)) (pa_cons (pe_callTy call_tuple_of (by rfl) T.z_tuple (by decide +kernel) (pa_cons (pe_lc (own := [("part", 2)]) (g := (gName 2)) (tt := tYes) (by rfl) sc_law_put.nd (pi_tup (pe_ix ix_tup (pv 0) pe_int (fun _ _ => rfl))) (blkOk_by (N := ["form", "bindings", "part"]) (sc := defScope s_law_put) (by decide +kernel)) (fun _ _ _ _ _ => (pg_name (i := 2) sc_law_put.nd rfl (Or.inl rfl))) (fun _ _ _ _ _ => pts_nil) (fun _ _ _ _ _ => (C8.pe_c C_law_put hr (by omega) rfl (pa_cons (pv 2) (pa_cons (pv 1) pa_nil))))) pa_nil)) pa_nil)))))) pss_nil)
    (pss_one (ps_ret (pv 0))))), ?_⟩
  rw [Tm.fill_eq] at q
  have hv0 := hv
  cases t with
  | var s =>
    unfold Tm.d at hv
    obtain ⟨a, x, y, rfl, hs, h1, h2⟩ := Dt.t2 hv
    obtain rfl := h1.s
    obtain rfl := h2.s
    refine vTx rfl hs rfl ⟨rfl, _, rfl, sT rfl (vTx rfl hs rfl ⟨_, rfl, tb, _, rfl, DGet.k (k := Sum.inr s) htb, _, rfl, ?_⟩)⟩
    cases e : lookA tab s with
    | some t' =>
      obtain ⟨v', e1, e2⟩ := (hb s).1 t' e
      rw [e1]
      refine iteT ⟨_, rfl, vTx rfl hs rfl ⟨tb, v', rfl, by rw [← e1]; exact DGet.k (k := Sum.inr s) htb, q H v' (Same.refl H) ?_⟩⟩
      show Dt K H v' ((lookA tab s).getD (.var s)).d
      rw [e]
      exact e2
    | none =>
      rw [(hb s).2 e]
      refine iteF (vTx rfl hs rfl ⟨rfl, _, rfl, sF (by decide +kernel) ⟨_, rfl, q H _ (Same.refl H) ?_⟩⟩)
      show Dt K H _ ((lookA tab s).getD (.var s)).d
      rw [e]
      exact hv0
  | node c ts =>
    unfold Tm.d at hv
    obtain ⟨a, x, y, z, rfl, hs, h1, h2, h3⟩ := Dt.t3 hv
    obtain rfl := h1.s
    obtain rfl := h2.s
    obtain ⟨b, ys, rfl, hb2, hys⟩ := Dt.tn h3
    rw [Tm.ds_map] at hys
    have ly : ys.length = ts.length := by rw [hys.lenD, List.length_map]
    have lk : ts.length ≤ 1000 := pl.at_.1
    refine vTx rfl hs rfl ⟨rfl, _, rfl, sF (by decide +kernel) (vTx rfl hs rfl ⟨rfl, _, rfl, sT rfl (vTx rfl hs rfl ?_)⟩)⟩
    refine vTx rfl hs rfl ⟨b, rfl, ⟨_, hb2⟩, fun D hD => lcS (K := K) (walk_tup (xs := ys)) hD (by omega) (fun ds => ds = ((ts.take ds.length).map (Tm.fill tab)).map Tm.d) rfl (fun H' s => Same.seqT s hb2) ?_ ?_⟩
    · rintro i x H1 H1 ds R hi s1 ⟨rfl, gx⟩ jd len r
      obtain ⟨d, gd, dx⟩ := DtAll.getX hys gx
      rw [List.getElem?_map] at gd
      cases e0 : ts[i]? with
      | none => rw [e0] at gd; cases gd
      | some k =>
      rw [e0] at gd
      cases gd
      have hk : k ∈ (Tm.node c ts).kids := List.mem_of_getElem? e0
      have := Tm.ht_kid hk
      refine ⟨rfl, _, rfl, _, rfl, x, tb, k, kvs, tab, rfl, dx.same s1, s1 _ _ htb, hb.mono fun _ _ z => z.same s1, pl.kid hk, by omega, fun H2 v' s2 dv => r (k.fill tab).d v' H2 s2 dv ?_⟩
      rw [List.length_append, len, show i + [(k.fill tab).d].length = i + 1 from rfl, List.take_add_one, e0, List.map_append, List.map_append]
      rw [len] at jd
      rw [← jd]; rfl
    rintro H1 ws ds s1 hws da len jd
    rw [len, ly, List.take_length] at jd
    rw [jd] at da
    refine ⟨D, _, rfl, .inl ⟨SqL.of hws, fun p1 hp1 => ⟨small (by show 3 ≤ _; decide), fun p2 hp2 => ?_⟩⟩⟩
    refine q _ _ ((s1.trans (same_new hp1)).trans (same_new hp2)) ?_
    show Dt K _ _ (Tm.node c (ts.map (Tm.fill tab))).d
    unfold Tm.d
    rw [Tm.ds_map]
    exact Dt.mk3 hp2 (.str _) (.str _) (.tup (SqT.of upd_same) (da.same (same_new hp1)))
  | map es => exact absurd rfl (pl.at_.2.2 es)
  | form g ts => exact absurd rfl (pl.at_.2.1 g ts)
  | int m =>
    unfold Tm.d at hv
    obtain ⟨a, x, y, rfl, hs, h1, h2⟩ := Dt.t2 hv
    obtain rfl := h1.s
    exact vTx rfl hs rfl ⟨rfl, _, rfl, sF (by decide +kernel) (vTx rfl hs rfl ⟨rfl, _, rfl, sF (by decide +kernel) ⟨_, rfl, q H _ (Same.refl H) hv0⟩⟩)⟩
  | name m =>
    unfold Tm.d at hv
    obtain ⟨a, x, y, rfl, hs, h1, h2⟩ := Dt.t2 hv
    obtain rfl := h1.s
    exact vTx rfl hs rfl ⟨rfl, _, rfl, sF (by decide +kernel) (vTx rfl hs rfl ⟨rfl, _, rfl, sF (by decide +kernel) ⟨_, rfl, q H _ (Same.refl H) hv0⟩⟩)⟩
  | addr m =>
    unfold Tm.d at hv
    obtain ⟨a, x, y, rfl, hs, h1, h2⟩ := Dt.t2 hv
    obtain rfl := h1.s
    exact vTx rfl hs rfl ⟨rfl, _, rfl, sF (by decide +kernel) (vTx rfl hs rfl ⟨rfl, _, rfl, sF (by decide +kernel) ⟨_, rfl, q H _ (Same.refl H) hv0⟩⟩)⟩
end
end PK
namespace PK
open PySem L2
/-! the law's translation -/
structure RwP (R : List Rw) : Prop where
  nd : (R.map Rw.nm).Nodup
  len : R.length ≤ 1000
  ar : ∀ r ∈ R, r.ps.length ≤ 3
  pl : ∀ r ∈ R, Al plN r.t
  ht : ∀ r ∈ R, r.t.ht ≤ 9
/-- rows, in a list or in a tuple -/
structure RvR (K : PySem.W.Frag) (H : Hp) (rv : V) (R : List Rw) : Prop where
  mk :: (out : ∃ (ra : Addr) (rw_ : List V), rv = .ref ra ∧ (H ra = some (.lst rw_) ∨ SqT K H ra rw_) ∧ DtAll K H rw_ (R.map Rw.d))
theorem RvR.same {K : PySem.W.Frag} {H H' : Hp} {rv : V} {R : List Rw} (h : RvR K H rv R) (s : Same H H') : RvR K H' rv R := by
  obtain ⟨ra, rw_, e, h1, h2⟩ := h.out
  exact ⟨⟨ra, rw_, e, h1.imp (fun z => s _ _ z) (fun z => Same.seqT s z), h2.same s⟩⟩
theorem RvR.tup {K : PySem.W.Frag} {H : Hp} {rv : V} {R : List Rw} (h : Dt K H rv (.tuple (R.map Rw.d))) : RvR K H rv R := by
  obtain ⟨ra, rw_, e, h1, h2⟩ := Dt.tn h
  exact ⟨⟨ra, rw_, e, .inr h1, h2⟩⟩
def spTempl (K : PySem.W.Frag) : Sp := fun vs H Q _ => ∃ (rv : V) (pp : Addr) (pw : List V) (R : List Rw) (r : Rw) (ks : List Tm), vs = [rv, .str r.nm, .ref pp] ∧ RvR K H rv R ∧ RwP R ∧ r ∈ R ∧ H pp = some (.lst pw) ∧ DtAll K H pw (ks.map Tm.d) ∧ ks.length = r.ps.length ∧
  ∀ (H' : Hp) (v : V), Same H H' → Dt K H' v (r.t.fill (r.ps.zip ks)).d → Q v H'
/-- a part of a tuple that is translated part by part -/
def ItD : PyData ⊕ Tm → PyData
  | .inl d => d
  | .inr t => t.d
def ItT (R : List Rw) : PyData ⊕ Tm → PyData
  | .inl d => d
  | .inr t => (t.trans R).d
def ItOk (R : List Rw) (n : Nat) : PyData ⊕ Tm → Prop
  | .inl d => (∃ s, d = .str s) ∨ ∃ i, d = .int i
  | .inr t => t.ht + 1 < n ∧ okT R t
structure SeqT (R : List Rw) (n : Nat) (g : Str) (its : List (PyData ⊕ Tm)) : Prop where
  g1 : g ≠ "map"
  g2 : g ≠ "node"
  ok : ∀ i ∈ its, ItOk R n i
  len : its.length ≤ 1000
def spTrl (K : PySem.W.Frag) (n : Nat) : Sp := fun vs H Q _ => ∃ (rv x : V) (R : List Rw), vs = [rv, x] ∧ RvR K H rv R ∧ RwP R ∧
  ((∃ t : Tm, t.ht < n ∧ okT R t ∧ Dt K H x t.d ∧ ∀ (H' : Hp) (v : V), Same H H' → Dt K H' v (t.trans R).d → Q v H') ∨
   (((∃ s, x = .str s) ∨ (∃ i, x = .int i) ∨ x = .non) ∧ 1 ≤ n ∧ Q x H) ∨
   (∃ (g : Str) (its : List (PyData ⊕ Tm)), 2 ≤ n ∧ SeqT R n g its ∧ Dt K H x (.tuple (.str g :: its.map ItD)) ∧ ∀ (H' : Hp) (v : V), Same H H' → Dt K H' v (.tuple (.str g :: its.map (ItT R))) → Q v H'))
theorem trans_node {R : List Rw} {c : Str} {ts : List Tm} {r : Rw} (h : rowOf R c = some r) : (Tm.node c ts).trans R = r.t.fill (r.ps.zip (ts.map (Tm.trans R))) := by
  rw [Tm.trans_eq]
  show (match rowOf R c with | some r => r.t.fill (r.ps.zip _) | none => _) = _
  rw [h]
  rfl
theorem trans_map (R : List Rw) (es : List (Str × Tm)) : (Tm.map es).trans R = .map (es.map fun e => (e.1, e.2.trans R)) := by
  rw [Tm.trans_eq]
  show Tm.map (List.zipWith (fun (e : Str × Tm) (k : Tm) => (e.1, k)) es ((es.map Prod.snd).map (Tm.trans R))) = _
  refine congrArg Tm.map ?_
  induction es with
  | nil => rfl
  | cons e es ih => rw [List.map_cons, List.map_cons, List.zipWith_cons_cons, ih, List.map_cons]
theorem asSeq {R : List Rw} {t : Tm} {n : Nat} (ok : okT R t) (h : t.ht < n) (h1 : ∀ c ts, t ≠ .node c ts) (h2 : ∀ es, t ≠ .map es) : ∃ (g : Str) (its : List (PyData ⊕ Tm)), SeqT R n g its ∧ t.d = .tuple (.str g :: its.map ItD) ∧ (t.trans R).d = .tuple (.str g :: its.map (ItT R)) := by
  have one : ∀ (g : Str) (d : PyData), ((∃ s, d = .str s) ∨ ∃ i, d = .int i) → g ≠ "map" → g ≠ "node" → SeqT R n g [.inl d] := fun g d hd e1 e2 => ⟨e1, e2, fun i hi => by rw [List.mem_singleton.mp hi]; exact hd, by show 1 ≤ 1000; decide⟩
  have tr : (∀ f ts, t ≠ .form f ts) → t.trans R = t := fun hf => by
    rw [Tm.trans_eq]
    cases t <;> first | rfl | exact absurd rfl (h1 _ _) | exact absurd rfl (h2 _) | exact absurd rfl (hf _ _)
  cases t with
  | int m => exact ⟨"int", [.inl (.int m)], one _ _ (.inr ⟨_, rfl⟩) (by decide +kernel) (by decide +kernel), by unfold Tm.d; rfl, by rw [tr fun _ _ z => nomatch z]; unfold Tm.d; rfl⟩
  | addr m => exact ⟨"addr", [.inl (.int m)], one _ _ (.inr ⟨_, rfl⟩) (by decide +kernel) (by decide +kernel), by unfold Tm.d; rfl, by rw [tr fun _ _ z => nomatch z]; unfold Tm.d; rfl⟩
  | name m => exact ⟨"name", [.inl (.str m)], one _ _ (.inl ⟨_, rfl⟩) (by decide +kernel) (by decide +kernel), by unfold Tm.d; rfl, by rw [tr fun _ _ z => nomatch z]; unfold Tm.d; rfl⟩
  | var m => exact ⟨"meta", [.inl (.str m)], one _ _ (.inl ⟨_, rfl⟩) (by decide +kernel) (by decide +kernel), by unfold Tm.d; rfl, by rw [tr fun _ _ z => nomatch z]; unfold Tm.d; rfl⟩
  | form f ts =>
    refine ⟨f.s, ts.map .inr, ⟨f.ne_map, f.ne_node, fun i hi => ?_, by rw [List.length_map]; exact ok.at_.1⟩, ?_, ?_⟩
    · obtain ⟨k, hk, rfl⟩ := List.mem_map.mp hi
      have := Tm.ht_kid (t := .form f ts) hk
      exact ⟨by omega, ok.kid hk⟩
    · unfold Tm.d
      rw [Tm.ds_map, List.map_map]; rfl
    · rw [Tm.trans_eq]
      show (Tm.form f (ts.map (Tm.trans R))).d = _
      unfold Tm.d
      rw [Tm.ds_map, List.map_map, List.map_map]; rfl
  | node c ts => exact absurd rfl (h1 _ _)
  | map es => exact absurd rfl (h2 _)
section
variable {P : Program} {w : World} {K : PySem.W.Frag} {mg : Str → Option Value} {base : Heap}
abbrev s_law_templated : Stmt := topS 46
theorem sc_law_templated : FnScope ["rows", "name", "parts", "row", "bindings", "k", "one"] ["rows", "name", "parts"] (defScope s_law_templated) := ⟨rfl, rfl, rfl, by decide +kernel, rfl, by decide +kernel, by decide +kernel⟩
-- slots: 0:rows 1:name(cell) 2:parts 3:row 4:bindings 5:k 6:one(comp)
abbrev s_law_translate : Stmt := topS 47
theorem sc_law_translate : FnScope ["rows", "form", "part", "entry"] ["rows", "form"] (defScope s_law_translate) := ⟨rfl, rfl, rfl, by decide +kernel, rfl, by decide +kernel, by decide +kernel⟩
-- slots: 0:rows(cell) 1:form 2:part(comp) 3:entry(comp)
theorem ok_templ {f : Addr} {fd : FuncData} (F : Fun K "_law_templated" "_law_templated" s_law_templated f fd) (T : Txt K mg) (C_law_put : C8.Cal P w K mg base 9 "_law_put" (spPut K 9) []) : FnOk P w K mg base CX0 10 f fd ["rows", "name", "parts"] (spTempl K) := by
  refine F.ok sc_law_templated (fun vs H Q E h => ?_) (fun cdv A outer s H vs Q E hr h => ?_)
  · obtain ⟨_, _, _, _, _, _, rfl, _⟩ := h
    rfl
  obtain ⟨rv, pp, pw, R, r, ks, rfl, drv, rok, hr', hpp, dpp, lks, q⟩ := h
  have hl := rok.len
  refine ⟨_, (pss_cons (ps_set (i := 3) sc_law_templated.nd rfl (Or.inl rfl) (pe_ix ix_list (pe_lc (own := [("one", 6)]) (g := (gName 6)) (by rfl) sc_law_templated.nd (PKR.pi_or (pi_list (pv 0)) (pi_tup (pv 0))) (blkOk_by (N := ["rows", "name", "parts", "row", "bindings", "k", "one"]) (sc := defScope s_law_templated) (by decide +kernel)) (fun _ _ _ _ _ => (pg_name (i := 6) sc_law_templated.nd rfl (Or.inl rfl))) (fun _ _ _ _ _ => pts_one (pt_cmpR op_eq (pe_ix (r := rIxT K) ix_tup (pv 6) pe_int (fun _ _ => rfl)) (pv 1) (nomark _))) (fun _ _ _ _ _ => (pv 6))) pe_int (fun _ _ => rfl)))
    (pss_cons (ps_set (i := 4) sc_law_templated.nd rfl (Or.inl rfl) pe_dnewK)
    (pss_cons (ps_for PassesOwn.never rfl (pi_range1 (by rfl) T.z_range (pa_cons (pe_callB call_lenS (by rfl) T.z_len (by decide +kernel) (pa_cons (pv 2) pa_nil)) pa_nil)) (pg_name (i := 5) sc_law_templated.nd rfl (Or.inl rfl)) (pss_one (ps_dput (hu_of hr) (pv 4) (pe_ix ix_tup (pe_ix ix_tup (pv 3) pe_int (fun _ _ => rfl)) (pv 5) (fun _ _ => rfl)) (pe_ix ix_list (pv 2) (pv 5) (fun _ _ => rfl)) rfl)))
    (pss_one (ps_ret (C8.pe_c C_law_put hr (by decide) rfl (pa_cons (pe_ix ix_tup (pv 3) pe_int (fun _ _ => rfl)) (pa_cons (pv 4) pa_nil)))))))), ?_⟩
  obtain ⟨ra, rw_, rfl, hra, dra⟩ := drv.out
  have lrw : rw_.length = R.length := by rw [dra.lenD, List.length_map]
  have lpv : pw.length = ks.length := by rw [dpp.lenD, List.length_map]
  have l3 : r.ps.length ≤ 3 := rok.ar r hr'
  rcases hra with hra | hra
  · refine .inl ⟨_, rfl, ra, rfl, ⟨_, SqL.of hra⟩, fun D hD => lc_it (walk_list (K := K) (xs := rw_)) (fun i H' => ∃ vs, Same H H' ∧ H' D = some (.lst vs) ∧ vs.length ≤ i ∧ DtAll K H' vs (((R.take i).filter fun z => decide (z.nm = r.nm)).map Rw.d)) ?_ ?_ ?_ ?_⟩
    · exact ⟨[], same_new hD, upd_same, Nat.le_refl _, .nil⟩
    · rintro i H' _ ⟨_, s, _⟩
      exact SqL.of (s _ _ hra)
    · rintro i x H1 H1 hi ⟨vs, s1, hv, lv, dv⟩ ⟨rfl, gx⟩
      obtain ⟨dd, gd, dx⟩ := dra.getX gx
      rw [List.getElem?_map] at gd
      cases e0 : R[i]? with
      | none => rw [e0] at gd; cases gd
      | some z =>
      rw [e0] at gd
      cases gd
      have dx' := dx.same s1
      have dx2 := dx'
      unfold Rw.d at dx'
      obtain ⟨b, x1, y1, z1, rfl, hb', h1, h2, h3⟩ := Dt.t3 dx'
      obtain rfl := h1.s
      have et : ((R.take (i + 1)).filter fun z => decide (z.nm = r.nm)) = ((R.take i).filter fun z => decide (z.nm = r.nm)) ++ (if z.nm = r.nm then [z] else []) := by
        rw [List.take_add_one, e0, List.filter_append]
        by_cases h : z.nm = r.nm <;> simp [h]
      rw [et]
      refine ⟨rfl, vTx rfl hb' rfl ⟨_, rfl, rfl, _, rfl, ?_⟩⟩
      by_cases h : z.nm = r.nm
      · rw [if_pos h, decide_eq_true (show V.str z.nm = V.str r.nm by rw [h])]
        refine iteT ⟨_, rfl, vs, hv, smallL (by omega), vs ++ [.ref b], Same.upd s1 hD, upd_same, by rw [List.length_append]; show vs.length + 1 ≤ _; omega, ?_⟩
        rw [List.map_append]
        exact (dv.append (.cons dx2 .nil)).upd hv
      · rw [if_neg h, List.append_nil, decide_eq_false (show ¬ V.str z.nm = V.str r.nm from fun e => h (V.str.inj e))]
        exact iteF ⟨vs, s1, hv, by omega, dv⟩
    rintro H1 ⟨vs, s1, hv, lv, dv⟩
    rw [lrw, List.take_length] at dv
    have hd : (R.filter fun z => decide (z.nm = r.nm)).head? = some r := by
      rw [List.head?_filter]
      exact rowOf_mem rok.nd hr'
    obtain ⟨tl, etl⟩ : ∃ tl, (R.filter fun z => decide (z.nm = r.nm)) = r :: tl := by
      cases e : R.filter fun z => decide (z.nm = r.nm) with
      | nil => rw [e] at hd; cases hd
      | cons a b => rw [e] at hd; cases hd; exact ⟨b, rfl⟩
    rw [etl] at dv
    cases dv with
    | @cons v0 vr _ _ d0 dr =>
    have d0' := d0
    unfold Rw.d at d0
    obtain ⟨b, x1, y1, z1, rfl, hb, h1, h2, h3⟩ := Dt.t3 d0
    obtain ⟨a2, ps', rfl, hs2, dps⟩ := Dt.tn h2
    obtain rfl := dps.strsE
    refine ⟨D, _, _, _, rfl, rfl, SqL.of hv, atI_nat (j := 0) rfl, fun tb htb => ?_⟩
    have s2 := same_new (o := .dK []) htb
    have s12 := s1.trans s2
    have hpp2 := s12 _ _ hpp
    refine ⟨_, rfl, pp, _, rfl, .inl (SqL.of hpp2), ((pw.length : Nat) : Int), rfl, by omega, by omega, for_range (lo := 0) (n := ((pw.length : Nat) : Int).toNat) (fun k σ H2 => ∃ (kvs : List (Key × V)) (o5 : Option V), σ = [some (.ref ra), some (.str r.nm), some (.ref pp), some (.ref b), some (.ref tb), o5, none] ∧ Same H1 H2 ∧ H2 tb = some (.dK kvs) ∧ kvs.length ≤ k ∧ BindE K H2 kvs ((r.ps.zip ks).take k)) ?_ ?_ ?_⟩
    · exact ⟨[], _, rfl, s2, upd_same, Nat.le_refl _, BindE.nil⟩
    · rintro k σ H2 hk ⟨kvs, o5, rfl, s3, h3', lk, hbd⟩
      have hkp : k < r.ps.length := by omega
      have hkt : k < ks.length := by omega
      have ek : (0 : Int) + (k : Int) = (k : Nat) := Int.zero_add _
      obtain ⟨yk, gy, dy⟩ := dpp.getD (i := k) (d := ks[k].d) (by rw [List.getElem?_map, List.getElem?_eq_getElem hkt]; rfl)
      have s13 := s1.trans s3
      refine ⟨_, rfl, _, rfl, pp, pw, _, yk, rfl, rfl, SqL.of (s13 _ _ hpp), by rw [ek]; exact atI_nat gy, _, rfl, vTx rfl (Same.seqT s3 hb) rfl ⟨_, rfl, a2, _, _, .str r.ps[k], rfl, rfl, Same.seqT s3 hs2, by rw [ek]; exact atI_nat (by rw [List.getElem?_map, List.getElem?_eq_getElem hkp]; rfl), tb, _, rfl, DPut.k (k := Sum.inr r.ps[k]) h3' (smallL (by omega)), ?_⟩⟩
      have lz' := length_putK kvs (Sum.inr r.ps[k]) yk
      refine ⟨_, _, rfl, Same.upd s3 htb, upd_same, by omega, ?_⟩
      have lz : (r.ps.zip ks).length = r.ps.length := by rw [List.length_zip]; omega
      have ez : (r.ps.zip ks).take (k + 1) = (r.ps.zip ks).take k ++ [(r.ps[k], ks[k])] := by
        rw [List.take_add_one]
        have : (r.ps.zip ks)[k]? = some (r.ps[k], ks[k]) := by
          rw [List.getElem?_eq_getElem (by rw [lz]; exact hkp), List.getElem_zip]
        rw [this]; rfl
      rw [ez]
      exact (hbd.put (dy.same s13)).mono fun v d z => Dt.mono (fun _ _ y => seqT_updK y h3') _ _ z
    · rintro σ H2 ⟨kvs, o5, rfl, s3, h3', lk, hbd⟩
      have lz : (r.ps.zip ks).length = r.ps.length := by rw [List.length_zip]; omega
      rw [show ((pw.length : Nat) : Int).toNat = (r.ps.zip ks).length by omega, List.take_length] at hbd
      refine vTx rfl (Same.seqT s3 hb) rfl ⟨_, rfl, z1, tb, r.t, kvs, _, rfl, h3.same s3, h3', hbd, rok.pl r hr', rok.ht r hr', fun H3 v' s4 dv => q H3 v' ((s1.trans s3).trans s4) dv⟩
  · refine .inr ⟨_, rfl, ra, rfl, ⟨_, hra⟩, fun D hD => lc_it (walk_tup (K := K) (xs := rw_)) (fun i H' => ∃ vs, Same H H' ∧ H' D = some (.lst vs) ∧ vs.length ≤ i ∧ DtAll K H' vs (((R.take i).filter fun z => decide (z.nm = r.nm)).map Rw.d)) ?_ ?_ ?_ ?_⟩
    · exact ⟨[], same_new hD, upd_same, Nat.le_refl _, .nil⟩
    · rintro i H' _ ⟨_, s, _⟩
      exact Same.seqT s hra
    · rintro i x H1 H1 hi ⟨vs, s1, hv, lv, dv⟩ ⟨rfl, gx⟩
      obtain ⟨dd, gd, dx⟩ := dra.getX gx
      rw [List.getElem?_map] at gd
      cases e0 : R[i]? with
      | none => rw [e0] at gd; cases gd
      | some z =>
      rw [e0] at gd
      cases gd
      have dx' := dx.same s1
      have dx2 := dx'
      unfold Rw.d at dx'
      obtain ⟨b, x1, y1, z1, rfl, hb', h1, h2, h3⟩ := Dt.t3 dx'
      obtain rfl := h1.s
      have et : ((R.take (i + 1)).filter fun z => decide (z.nm = r.nm)) = ((R.take i).filter fun z => decide (z.nm = r.nm)) ++ (if z.nm = r.nm then [z] else []) := by
        rw [List.take_add_one, e0, List.filter_append]
        by_cases h : z.nm = r.nm <;> simp [h]
      rw [et]
      refine ⟨rfl, vTx rfl hb' rfl ⟨_, rfl, rfl, _, rfl, ?_⟩⟩
      by_cases h : z.nm = r.nm
      · rw [if_pos h, decide_eq_true (show V.str z.nm = V.str r.nm by rw [h])]
        refine iteT ⟨_, rfl, vs, hv, smallL (by omega), vs ++ [.ref b], Same.upd s1 hD, upd_same, by rw [List.length_append]; show vs.length + 1 ≤ _; omega, ?_⟩
        rw [List.map_append]
        exact (dv.append (.cons dx2 .nil)).upd hv
      · rw [if_neg h, List.append_nil, decide_eq_false (show ¬ V.str z.nm = V.str r.nm from fun e => h (V.str.inj e))]
        exact iteF ⟨vs, s1, hv, by omega, dv⟩
    rintro H1 ⟨vs, s1, hv, lv, dv⟩
    rw [lrw, List.take_length] at dv
    have hd : (R.filter fun z => decide (z.nm = r.nm)).head? = some r := by
      rw [List.head?_filter]
      exact rowOf_mem rok.nd hr'
    obtain ⟨tl, etl⟩ : ∃ tl, (R.filter fun z => decide (z.nm = r.nm)) = r :: tl := by
      cases e : R.filter fun z => decide (z.nm = r.nm) with
      | nil => rw [e] at hd; cases hd
      | cons a b => rw [e] at hd; cases hd; exact ⟨b, rfl⟩
    rw [etl] at dv
    cases dv with
    | @cons v0 vr _ _ d0 dr =>
    have d0' := d0
    unfold Rw.d at d0
    obtain ⟨b, x1, y1, z1, rfl, hb, h1, h2, h3⟩ := Dt.t3 d0
    obtain ⟨a2, ps', rfl, hs2, dps⟩ := Dt.tn h2
    obtain rfl := dps.strsE
    refine ⟨D, _, _, _, rfl, rfl, SqL.of hv, atI_nat (j := 0) rfl, fun tb htb => ?_⟩
    have s2 := same_new (o := .dK []) htb
    have s12 := s1.trans s2
    have hpp2 := s12 _ _ hpp
    refine ⟨_, rfl, pp, _, rfl, .inl (SqL.of hpp2), ((pw.length : Nat) : Int), rfl, by omega, by omega, for_range (lo := 0) (n := ((pw.length : Nat) : Int).toNat) (fun k σ H2 => ∃ (kvs : List (Key × V)) (o5 : Option V), σ = [some (.ref ra), some (.str r.nm), some (.ref pp), some (.ref b), some (.ref tb), o5, none] ∧ Same H1 H2 ∧ H2 tb = some (.dK kvs) ∧ kvs.length ≤ k ∧ BindE K H2 kvs ((r.ps.zip ks).take k)) ?_ ?_ ?_⟩
    · exact ⟨[], _, rfl, s2, upd_same, Nat.le_refl _, BindE.nil⟩
    · rintro k σ H2 hk ⟨kvs, o5, rfl, s3, h3', lk, hbd⟩
      have hkp : k < r.ps.length := by omega
      have hkt : k < ks.length := by omega
      have ek : (0 : Int) + (k : Int) = (k : Nat) := Int.zero_add _
      obtain ⟨yk, gy, dy⟩ := dpp.getD (i := k) (d := ks[k].d) (by rw [List.getElem?_map, List.getElem?_eq_getElem hkt]; rfl)
      have s13 := s1.trans s3
      refine ⟨_, rfl, _, rfl, pp, pw, _, yk, rfl, rfl, SqL.of (s13 _ _ hpp), by rw [ek]; exact atI_nat gy, _, rfl, vTx rfl (Same.seqT s3 hb) rfl ⟨_, rfl, a2, _, _, .str r.ps[k], rfl, rfl, Same.seqT s3 hs2, by rw [ek]; exact atI_nat (by rw [List.getElem?_map, List.getElem?_eq_getElem hkp]; rfl), tb, _, rfl, DPut.k (k := Sum.inr r.ps[k]) h3' (smallL (by omega)), ?_⟩⟩
      have lz' := length_putK kvs (Sum.inr r.ps[k]) yk
      refine ⟨_, _, rfl, Same.upd s3 htb, upd_same, by omega, ?_⟩
      have lz : (r.ps.zip ks).length = r.ps.length := by rw [List.length_zip]; omega
      have ez : (r.ps.zip ks).take (k + 1) = (r.ps.zip ks).take k ++ [(r.ps[k], ks[k])] := by
        rw [List.take_add_one]
        have : (r.ps.zip ks)[k]? = some (r.ps[k], ks[k]) := by
          rw [List.getElem?_eq_getElem (by rw [lz]; exact hkp), List.getElem_zip]
        rw [this]; rfl
      rw [ez]
      exact (hbd.put (dy.same s13)).mono fun v d z => Dt.mono (fun _ _ y => seqT_updK y h3') _ _ z
    · rintro σ H2 ⟨kvs, o5, rfl, s3, h3', lk, hbd⟩
      have lz : (r.ps.zip ks).length = r.ps.length := by rw [List.length_zip]; omega
      rw [show ((pw.length : Nat) : Int).toNat = (r.ps.zip ks).length by omega, List.take_length] at hbd
      refine vTx rfl (Same.seqT s3 hb) rfl ⟨_, rfl, z1, tb, r.t, kvs, _, rfl, h3.same s3, h3', hbd, rok.pl r hr', rok.ht r hr', fun H3 v' s4 dv => q H3 v' ((s1.trans s3).trans s4) dv⟩
theorem ok_trl {n : Nat} {f : Addr} {fd : FuncData} (F : Fun K "_law_translate" "_law_translate" s_law_translate f fd) (T : Txt K mg) (C_law_templated : C8.Cal P w K mg base 10 "_law_templated" (spTempl K) []) (C_law_translate : C8.Cal P w K mg base (n + 10) "_law_translate" (spTrl K n) []) :
    FnOk P w K mg base CX0 (n + 11) f fd ["rows", "form"] (spTrl K (n + 1)) := by
  refine F.ok sc_law_translate (fun vs H Q E h => ?_) (fun cdv A outer s H vs Q E hr h => ?_)
  · obtain ⟨_, _, _, rfl, _⟩ := h
    rfl
  obtain ⟨rv, x, R, rfl, drv, rok, alt⟩ := h
  refine ⟨_, (pss_cons (ps_if (pt_not (pt_val (pe_callB call_isi (by rfl) T.z_isinstance (by decide +kernel) (pa_cons (pv 1) (pa_cons (pe_bltn (v := .ty "tuple") (by rfl) T.z_tuple (by decide +kernel) rfl) pa_nil))))) (pss_one (ps_ret (pv 1))) pss_nil)
    (pss_cons (ps_if (pt_cmpR op_eq (pe_ix ix_tup (pv 1) pe_int (fun _ _ => rfl)) pe_str (nomark _)) (pss_one (ps_ret (pe_tup (pa_cons pe_str (pa_cons (pe_callTy call_tuple_of (by rfl) T.z_tuple (by decide +kernel) (pa_cons (pe_lc (own := [("entry", 3)]) (g := (gName 3)) (tt := tYes) (by rfl) sc_law_translate.nd (pi_tup (pe_ix ix_tup (pv 1) pe_int (fun _ _ => rfl))) (blkOk_by (N := ["rows", "form", "part", "entry"]) (sc := defScope s_law_translate) (by decide +kernel)) (fun _ _ _ _ _ => (pg_name (i := 3) sc_law_translate.nd rfl (Or.inl rfl))) (fun _ _ _ _ _ => pts_nil) (fun _ _ _ _ _ => (pe_tup (pa_cons (pe_ix (r := rIxT K) ix_tup (pv 3) pe_int (fun _ _ => rfl)) (pa_cons (C8.pe_c C_law_translate hr (by omega) rfl (pa_cons (pv 0) (pa_cons (pe_ix (r := rIxT K) ix_tup (pv 3) pe_int (fun _ _ => rfl)) pa_nil))) pa_nil))))) pa_nil)) pa_nil))))) pss_nil)
    (pss_cons (ps_if (pt_cmpR op_eq (pe_ix ix_tup (pv 1) pe_int (fun _ _ => rfl)) pe_str (nomark _)) (pss_one (ps_ret (C8.pe_c C_law_templated hr (by omega) rfl (pa_cons (pv 0) (pa_cons (pe_ix ix_tup (pv 1) pe_int (fun _ _ => rfl)) (pa_cons (pe_lc (own := [("part", 2)]) (g := (gName 2)) (tt := tYes) (by rfl) sc_law_translate.nd (pi_tup (pe_ix ix_tup (pv 1) pe_int (fun _ _ => rfl))) (blkOk_by (N := ["rows", "form", "part", "entry"]) (sc := defScope s_law_translate) (by decide +kernel)) (fun _ _ _ _ _ => (pg_name (i := 2) sc_law_translate.nd rfl (Or.inl rfl))) (fun _ _ _ _ _ => pts_nil) (fun _ _ _ _ _ => (C8.pe_c C_law_translate hr (by omega) rfl (pa_cons (pv 0) (pa_cons (pv 2) pa_nil))))) pa_nil)))))) pss_nil)
    (pss_one (ps_ret (pe_callTy call_tuple_of (by rfl) T.z_tuple (by decide +kernel) (pa_cons (pe_lc (own := [("part", 2)]) (g := (gName 2)) (tt := tYes) (by rfl) sc_law_translate.nd (pi_tup (pv 1)) (blkOk_by (N := ["rows", "form", "part", "entry"]) (sc := defScope s_law_translate) (by decide +kernel)) (fun _ _ _ _ _ => (pg_name (i := 2) sc_law_translate.nd rfl (Or.inl rfl))) (fun _ _ _ _ _ => pts_nil) (fun _ _ _ _ _ => (C8.pe_c C_law_translate hr (by omega) rfl (pa_cons (pv 0) (pa_cons (pv 2) pa_nil))))) pa_nil))))))), ?_⟩
  have alt : (∃ t : Tm, ((∃ c ts, t = .node c ts) ∨ ∃ es, t = .map es) ∧ t.ht < n + 1 ∧ okT R t ∧ Dt K H x t.d ∧ ∀ (H' : Hp) (v : V), Same H H' → Dt K H' v (t.trans R).d → Q v H') ∨
      (((∃ s, x = .str s) ∨ (∃ i, x = .int i) ∨ x = .non) ∧ 1 ≤ n + 1 ∧ Q x H) ∨
      (∃ (g : Str) (its : List (PyData ⊕ Tm)), 2 ≤ n + 1 ∧ SeqT R (n + 1) g its ∧ Dt K H x (.tuple (.str g :: its.map ItD)) ∧ ∀ (H' : Hp) (v : V), Same H H' → Dt K H' v (.tuple (.str g :: its.map (ItT R))) → Q v H') := by
    rcases alt with ⟨t, hh, tt, hv, q⟩ | h | h
    · have hp := t.ht_pos
      by_cases h1 : ∃ c ts, t = .node c ts
      · exact .inl ⟨t, .inl h1, hh, tt, hv, q⟩
      · by_cases h2 : ∃ es, t = .map es
        · exact .inl ⟨t, .inr h2, hh, tt, hv, q⟩
        · obtain ⟨g, its, st, e1, e2⟩ := asSeq tt hh (fun c ts z => h1 ⟨c, ts, z⟩) (fun es z => h2 ⟨es, z⟩)
          exact .inr (.inr ⟨g, its, by omega, st, by rw [← e1]; exact hv, fun H' v s d => q H' v s (by rw [e2]; exact d)⟩)
    · exact .inr (.inl h)
    · exact .inr (.inr h)
  rcases alt with ⟨t, nm, hh, tt, hv, q⟩ | ⟨hx, _, q⟩ | ⟨g, its, n2, st, hv, q⟩
  rotate_left
  · rcases hx with ⟨s, rfl⟩ | ⟨i, rfl⟩ | rfl
    · exact vIsi rfl (TyX.base (.str s)) (b := false) (by decide +kernel) ⟨_, rfl, iteT ⟨_, rfl, q⟩⟩
    · exact vIsi rfl (TyX.base (.int i)) (b := false) (by decide +kernel) ⟨_, rfl, iteT ⟨_, rfl, q⟩⟩
    · exact vIsi rfl (TyX.base .non) (b := false) (by decide +kernel) ⟨_, rfl, iteT ⟨_, rfl, q⟩⟩
  · obtain ⟨a0, xs0, rfl, hs0, dxs⟩ := Dt.tn hv
    cases dxs with
    | @cons v0 vr _ _ d0 dr =>
    obtain rfl := d0.s
    have lvr : vr.length = its.length := by rw [dr.lenD, List.length_map]
    have lit := st.len
    refine vIsi rfl (ty_tup hs0) (b := true) (by decide +kernel) ⟨_, rfl, iteF ?_⟩
    refine vTx rfl hs0 (atI_nat (j := 0) rfl) ⟨rfl, _, rfl, sF st.g1 (vTx rfl hs0 (atI_nat (j := 0) rfl) ⟨rfl, _, rfl, sF st.g2 ?_⟩)⟩
    refine ⟨_, rfl, a0, rfl, ⟨_, hs0⟩, fun D hD => lc_it (walk_tup (K := K) (xs := .str g :: vr)) (fun i H' => ∃ vs, Same H H' ∧ H' D = some (.lst vs) ∧ vs.length ≤ i ∧ DtAll K H' vs ((PyData.str g :: its.map (ItT R)).take i)) ⟨[], same_new hD, upd_same, Nat.le_refl _, .nil⟩ (fun i H' _ h => by obtain ⟨_, s, _⟩ := h; exact Same.seqT s hs0) ?_ ?_⟩
    · rintro i z H1 H1' hi ⟨vs, s1, h1, lv, d1⟩ ⟨rfl, gx⟩
      have hi : i < vr.length + 1 := hi
      have fin : ∀ (v : V) (d : PyData) (H2 : Hp), Same H1' H2 → Dt K H2 v d → (PyData.str g :: its.map (ItT R))[i]? = some d → ∃ acc, H2 D = some (.lst acc) ∧ acc.length < sizeLine ∧ ∃ vs, Same H (upd H2 D (.lst (acc ++ [v]))) ∧ (upd H2 D (.lst (acc ++ [v]))) D = some (.lst vs) ∧ vs.length ≤ i + 1 ∧ DtAll K (upd H2 D (.lst (acc ++ [v]))) vs ((PyData.str g :: its.map (ItT R)).take (i + 1)) := fun v d H2 s2 dv e => by
        have h2 := s2 _ _ h1
        refine ⟨vs, h2, smallL (by omega), vs ++ [v], Same.upd (s1.trans s2) hD, upd_same, by rw [List.length_append]; show _ + 1 ≤ _; omega, ?_⟩
        rw [List.take_add_one, e]
        exact ((d1.same s2).append (.cons dv .nil)).upd h2
      cases i with
      | zero =>
        cases gx
        exact ⟨rfl, yes_ ⟨_, rfl, _, rfl, rv, .str g, R, rfl, drv.same s1, rok, .inr (.inl ⟨.inl ⟨g, rfl⟩, by omega, fin (.str g) (.str g) H1' (Same.refl _) (.str g) rfl⟩)⟩⟩
      | succ i =>
        have gx : vr[i]? = some z := gx
        obtain ⟨dd, gd, dx⟩ := dr.getX gx
        rw [List.getElem?_map] at gd
        cases e0 : its[i]? with
        | none => rw [e0] at gd; cases gd
        | some it =>
        rw [e0] at gd
        cases gd
        have ei : (PyData.str g :: its.map (ItT R))[i + 1]? = some (ItT R it) := by
          show (its.map (ItT R))[i]? = _
          rw [List.getElem?_map, e0]; rfl
        have oki := st.ok it (List.mem_of_getElem? e0)
        refine ⟨rfl, yes_ ⟨_, rfl, _, rfl, rv, z, R, rfl, drv.same s1, rok, ?_⟩⟩
        cases it with
        | inl d =>
          rcases oki with ⟨s, rfl⟩ | ⟨m, rfl⟩
          · obtain rfl := (show Dt K H z (.str s) from dx).s
            exact .inr (.inl ⟨.inl ⟨s, rfl⟩, by omega, fin (.str s) (.str s) H1' (Same.refl _) (.str s) ei⟩)
          · obtain rfl := (show Dt K H z (.int m) from dx).i
            exact .inr (.inl ⟨.inr (.inl ⟨m, rfl⟩), by omega, fin (.int m) (.int m) H1' (Same.refl _) (.int m) ei⟩)
        | inr t =>
          obtain ⟨h1', h2'⟩ := oki
          exact .inl ⟨t, by omega, h2', dx.same s1, fun H2 v' s2 dv => fin v' _ H2 s2 dv ei⟩
    rintro H1 ⟨vs, s1, h1, lv, d1⟩
    rw [List.take_of_length_le (by rw [List.length_cons, List.length_cons, List.length_map]; omega)] at d1
    exact ⟨D, _, rfl, .inl ⟨SqL.of h1, fun p hp => q _ _ (s1.trans (same_new hp)) (.tup (SqT.of upd_same) (d1.same (same_new hp)))⟩⟩
  obtain ⟨a0, xs0, rfl, hs0⟩ := Tm.dt_parts hv
  refine vIsi rfl (ty_tup hs0) (b := true) (by decide +kernel) ⟨_, rfl, iteF ?_⟩
  rcases nm with ⟨c, ts, rfl⟩ | ⟨es, rfl⟩
  · unfold Tm.d at hv
    obtain ⟨a, x, y, z, e, hsq, h1, h2, h3⟩ := Dt.t3 hv
    cases e
    obtain rfl := h1.s
    obtain rfl := h2.s
    obtain ⟨b, ys, rfl, hb2, hys⟩ := Dt.tn h3
    rw [Tm.ds_map] at hys
    have ly : ys.length = ts.length := by rw [hys.lenD, List.length_map]
    obtain ⟨r, hr', en, hlr⟩ := tt.at_.2 c ts rfl
    have er : rowOf R c = some r := by rw [← en]; exact rowOf_mem rok.nd hr'
    have lk : ts.length ≤ 3 := by rw [← hlr]; exact rok.ar r hr'
    rw [trans_node er] at q
    refine vTx rfl hsq rfl ⟨rfl, _, rfl, sF (by decide +kernel) (vTx rfl hsq rfl ⟨rfl, _, rfl, sT rfl ?_⟩)⟩
    refine ⟨_, rfl, vTx rfl hsq rfl (vTx rfl hsq rfl ?_)⟩
    refine ⟨b, rfl, ⟨_, hb2⟩, fun D hD => lcS (K := K) (walk_tup (xs := ys)) hD (by omega) (fun ds => ds = ((ts.take ds.length).map (Tm.trans R)).map Tm.d) rfl (fun H' s => Same.seqT s hb2) ?_ ?_⟩
    · rintro i x H1 H1 ds R' hi s1 ⟨rfl, gx⟩ jd len r'
      obtain ⟨d, gd, dx⟩ := DtAll.getX hys gx
      rw [List.getElem?_map] at gd
      cases e0 : ts[i]? with
      | none => rw [e0] at gd; cases gd
      | some k =>
      rw [e0] at gd
      cases gd
      have hk : k ∈ (Tm.node c ts).kids := List.mem_of_getElem? e0
      have := Tm.ht_kid hk
      refine ⟨rfl, _, rfl, _, rfl, rv, x, R, rfl, drv.same s1, rok, .inl ⟨k, by omega, tt.kid hk, dx.same s1, fun H2 v' s2 dv => r' (k.trans R).d v' H2 s2 dv ?_⟩⟩
      rw [List.length_append, len, show i + [(k.trans R).d].length = i + 1 from rfl, List.take_add_one, e0, List.map_append, List.map_append]
      rw [len] at jd
      rw [← jd]; rfl
    rintro H1 ws ds s1 hws da len jd
    rw [len, ly, List.take_length] at jd
    rw [jd] at da
    exact ⟨rv, D, ws, R, r, ts.map (Tm.trans R), by rw [en]; rfl, drv.same s1, rok, hr', hws, da, by rw [List.length_map]; omega, fun H2 v s2 dv => q H2 v (s1.trans s2) dv⟩
  · unfold Tm.d at hv
    obtain ⟨a, x, y, e, hsq, h1, h2⟩ := Dt.t2 hv
    cases e
    obtain rfl := h1.s
    obtain ⟨b, ys, rfl, hb2, hys⟩ := Dt.tn h2
    rw [Tm.es_map] at hys
    have ly : ys.length = es.length := by rw [hys.lenD, List.length_map]
    have lk : es.length ≤ 1000 := by have := tt.at_.1; rwa [show (Tm.map es).kids.length = es.length from List.length_map ..] at this
    rw [trans_map] at q
    refine vTx rfl hsq rfl ⟨rfl, _, rfl, sT rfl ?_⟩
    refine vTx rfl hsq rfl ?_
    refine ⟨b, rfl, ⟨_, hb2⟩, fun D hD => lcS (K := K) (walk_tup (xs := ys)) hD (by omega) (fun ds => ds = ((es.take ds.length).map fun e => (e.1, e.2.trans R)).map Tm.ent) rfl (fun H' s => Same.seqT s hb2) ?_ ?_⟩
    · rintro i x H1 H1 ds R' hi s1 ⟨rfl, gx⟩ jd len r'
      obtain ⟨d, gd, dx⟩ := DtAll.getX hys gx
      rw [List.getElem?_map] at gd
      cases e0 : es[i]? with
      | none => rw [e0] at gd; cases gd
      | some k =>
      rw [e0] at gd
      cases gd
      have hk : k.2 ∈ (Tm.map es).kids := List.mem_map.mpr ⟨k, List.mem_of_getElem? e0, rfl⟩
      have := Tm.ht_kid hk
      unfold Tm.ent at dx
      obtain ⟨a3, x3, y3, rfl, hs3, h31, h32⟩ := Dt.t2 (dx.same s1)
      obtain rfl := h31.s
      refine ⟨rfl, vTx rfl hs3 rfl ⟨_, rfl, vTx rfl hs3 rfl ?_⟩⟩
      refine ⟨rv, y3, R, rfl, drv.same s1, rok, .inl ⟨k.2, by omega, tt.kid hk, h32, fun H2 v' s2 dv => ⟨small (by show 2 ≤ _; decide), fun p hp => r' (Tm.ent (k.1, k.2.trans R)) _ _ (s2.trans (same_new hp)) (by unfold Tm.ent; exact Dt.mk2 hp (.str _) dv) ?_⟩⟩⟩
      rw [List.length_append, len, show i + [Tm.ent (k.1, k.2.trans R)].length = i + 1 from rfl, List.take_add_one, e0, List.map_append, List.map_append]
      rw [len] at jd
      rw [← jd]; rfl
    rintro H1 ws ds s1 hws da len jd
    rw [len, ly, List.take_length] at jd
    rw [jd] at da
    refine ⟨D, _, rfl, .inl ⟨SqL.of hws, fun p1 hp1 => ⟨small (by show 2 ≤ _; decide), fun p2 hp2 => q _ _ ((s1.trans (same_new hp1)).trans (same_new hp2)) ?_⟩⟩⟩
    show Dt K _ _ (Tm.map (es.map fun e => (e.1, e.2.trans R))).d
    unfold Tm.d
    rw [Tm.es_map]
    exact Dt.mk2 hp2 (.str _) (.tup (SqT.of upd_same) (da.same (same_new hp1)))
end
end PK
namespace PK
open PySem L2
/-! an order, and renamed languages -/
def spMixed : Sp := fun vs H Q _ => ∃ (l c : Addr) (m : Nat), vs = [.ref l, .int (m : Nat)] ∧ Pool H l c ∧ m ≤ 20 ∧
  ∀ (H' : Hp) (p : Addr) (os : List Nat), Ext l c H H' → H p = none → H' p = some (.lst (os.map fun (o : Nat) => V.int (o : Int))) → os.Perm (List.range m) → Q (.ref p) H'
theorem erase_perm {α : Type} : ∀ (l : List α) (k : Nat) (h : k < l.length), (l[k] :: l.eraseIdx k).Perm l
  | a :: l, 0, _ => List.Perm.refl _
  | a :: l, k + 1, h => by
    have h' : k < l.length := by simpa using h
    show (l[k] :: a :: l.eraseIdx k).Perm (a :: l)
    exact (List.Perm.swap a l[k] _).trans (List.Perm.cons a (erase_perm l k h'))
theorem seqIx_nat {k n : Nat} (h : k < n) : seqIndex? (k : Int) n = some k := by
  unfold seqIndex?
  have h0 : ¬ ((k : Int) < 0) := by omega
  simp [h0, h]
theorem map_erase {α β : Type} (f : α → β) : ∀ (l : List α) (k : Nat), (l.map f).eraseIdx k = (l.eraseIdx k).map f
  | [], _ => rfl
  | _ :: _, 0 => rfl
  | a :: l, k + 1 => by
    show f a :: (l.map f).eraseIdx k = f a :: (l.eraseIdx k).map f
    rw [map_erase f l k]
section
variable {P : Program} {w : World} {K : PySem.W.Frag} {mg : Str → Option Value} {base : Heap}
abbrev s_law_mixed : Stmt := topS 48
theorem sc_law_mixed : FnScope ["pool", "many", "order", "left", "k"] ["pool", "many"] (defScope s_law_mixed) := ⟨rfl, rfl, rfl, by decide +kernel, rfl, by decide +kernel, by decide +kernel⟩
-- slots: 0:pool 1:many 2:order 3:left 4:k
theorem ok_mixed {f : Addr} {fd : FuncData} (F : Fun K "_law_mixed" "_law_mixed" s_law_mixed f fd) (T : Txt K mg) (C_law_take : C8.Cal P w K mg base 2 "_law_take" (spTake 2) []) : FnOk P w K mg base CX0 3 f fd ["pool", "many"] spMixed := by
  refine F.ok sc_law_mixed (fun vs H Q E h => ?_) (fun cdv A outer s H vs Q E hr h => ?_)
  · obtain ⟨_, _, _, rfl, _⟩ := h
    rfl
  obtain ⟨l, c, m, rfl, P0, lm, q⟩ := h
  refine ⟨_, (pss_cons (ps_set (i := 2) sc_law_mixed.nd rfl (Or.inl rfl) (pe_lst pa_nil))
    (pss_cons (ps_set (i := 3) sc_law_mixed.nd rfl (Or.inl rfl) (pe_listRg (by rfl) (by rfl) T.z_list (prg_1 (by rfl) T.z_range (pv 1))))
    (pss_cons (ps_for PassesOwn.never rfl (pi_range1 (by rfl) T.z_range (pa_cons (pv 1) pa_nil)) (pg_name (i := 4) sc_law_mixed.nd rfl (Or.inl rfl)) (pss_one (ps_expr (pe_bm PySem.F.plainAttrs_list PySem.F.slot_list_append PySem.F.type_list_append mt_append (pv 2) (pa_cons (pe_bm PySem.F.plainAttrs_list PySem.F.slot_list_pop PySem.F.type_list_pop mt_popAt (pv 3) (pa_cons (C8.pe_c C_law_take hr (by decide) rfl (pa_cons (pv 0) (pa_cons (pe_callB call_len_seq (by rfl) T.z_len (by decide +kernel) (pa_cons (pv 3) pa_nil)) pa_nil))) pa_nil)) pa_nil)))))
    (pss_one (ps_ret (pv 2)))))), ?_⟩
  have vI : ∀ n : Nat, V.int (0 + (n : Int)) = V.int (n : Int) := fun n => by rw [Int.zero_add]
  refine ⟨Nat.zero_le _, fun O hO => ?_⟩
  have x1 := (Ext.refl P0).new (o := .lst []) P0 hO
  have nO := P0.ne hO
  have hO1 : (upd H O (.lst [])) O = some (.lst []) := upd_same
  generalize upd H O (HO.lst []) = H1 at *
  refine ⟨_, rfl, _, rfl, RgOk.of_le (by omega) (by omega) (by omega) (by omega), fun Lf hLf => ?_⟩
  have x2 := x1.new (o := .lst (rgV 0 (m : Int))) P0 hLf
  have fLf : H Lf = none := x1.free P0 hLf
  have nLf := P0.ne fLf
  have nOL : O ≠ Lf := ne_of_none hO1 hLf
  have hO2 : (upd H1 Lf (.lst (rgV 0 (m : Int)))) O = some (.lst []) := by rw [upd_ne nOL]; exact hO1
  have hL2 : (upd H1 Lf (.lst (rgV 0 (m : Int)))) Lf = some (.lst ((List.range m).map fun (o : Nat) => V.int (o : Int))) := by
    rw [upd_same]
    unfold rgV
    rw [show ((m : Int) - 0).toNat = m by omega, show (fun i : Nat => V.int (0 + (i : Int))) = fun (o : Nat) => V.int (o : Int) from funext fun n => vI n]
  generalize upd H1 Lf (HO.lst (rgV 0 (m : Int))) = H2 at *
  refine ⟨_, rfl, _, rfl, by omega, by omega, for_range (lo := 0) (n := ((m : Nat) : Int).toNat) (fun i σ H' => ∃ (os ls : List Nat) (o4 : Option V), σ = [some (.ref l), some (.int (m : Nat)), some (.ref O), some (.ref Lf), o4] ∧ Ext l c H H' ∧ H' O = some (.lst (os.map fun (o : Nat) => V.int (o : Int))) ∧ H' Lf = some (.lst (ls.map fun (o : Nat) => V.int (o : Int))) ∧ os.length = i ∧ (os ++ ls).Perm (List.range m)) ⟨[], _, _, rfl, x2, hO2, hL2, rfl, List.Perm.refl _⟩ ?_ ?_⟩
  · rintro i σ H3 hi ⟨os, ls, o4, rfl, x3, hO3, hL3, lo, pm⟩
    have hl := pm.length_eq
    rw [List.length_append, List.length_range] at hl
    refine ⟨_, rfl, .inl ⟨rfl, _, SqL.of hO3⟩, _, rfl, .inl ⟨rfl, _, SqL.of hL3⟩, _, rfl, _, rfl, Lf, _, rfl, .inl (SqL.of hL3), l, c, _, False, rfl, x3.pool, by rw [List.length_map]; omega, by rw [List.length_map]; omega, .inl (Nat.le_refl 2), fun j H4 j0 j1 x4 => ?_⟩
    rw [List.length_map] at j1
    obtain ⟨k, rfl⟩ : ∃ k : Nat, j = k := ⟨j.toNat, by omega⟩
    have hk : k < ls.length := by omega
    have hO4 := x4.keep _ _ nO.1 hO3
    have hL4 := x4.keep _ _ nLf.1 hL3
    refine ⟨Lf, _, (k : Int), k, .int (ls[k] : Nat), rfl, rfl, hL4, by omega, by omega, seqIx_nat (by rw [List.length_map]; exact hk), by rw [List.getElem?_map, List.getElem?_eq_getElem hk]; rfl, ?_⟩
    refine ⟨O, _, _, rfl, rfl, by rw [upd_ne nOL]; exact hO4, smallL (by rw [List.length_map]; omega), os ++ [ls[k]], ls.eraseIdx k, _, rfl, ?_, by rw [upd_same, List.map_append]; rfl, ?_, by rw [List.length_append, lo]; rfl, ?_⟩
    · exact ((x3.trans x4).upd P0 fLf).upd P0 hO
    · rw [upd_ne nOL.symm, upd_same, map_erase]
    · refine List.Perm.trans ?_ pm
      rw [List.append_assoc]
      exact List.Perm.append_left os (erase_perm ls k hk)
  · rintro σ H3 ⟨os, ls, o4, rfl, x3, hO3, hL3, lo, pm⟩
    have hl := pm.length_eq
    rw [List.length_append, List.length_range] at hl
    have : ls = [] := List.length_eq_zero_iff.mp (by omega)
    subst this
    rw [List.append_nil] at pm
    exact ⟨_, rfl, q H3 O os x3 hO hO3 pm⟩
end
end PK
namespace PK
open PySem L2
/-! rows that rename -/
theorem nd_le : ∀ {l m : List Str}, l.Nodup → (∀ x ∈ l, x ∈ m) → l.length ≤ m.length
  | [], _, _, _ => Nat.zero_le _
  | a :: l, m, h, s => by
    rw [List.nodup_cons] at h
    have ha := s a List.mem_cons_self
    have h1 := List.length_erase_of_mem ha
    have h2 := List.length_pos_of_mem ha
    have ih := nd_le (l := l) (m := m.erase a) h.2 fun x hx => (List.mem_erase_of_ne (fun e : x = a => h.1 (by rw [← e]; exact hx))).mpr (s x (List.mem_cons_of_mem _ hx))
    rw [List.length_cons]
    omega
def vAt (ps : List Str) (o : Nat) : Tm := match ps[o]? with
  | some w => .var w
  | none => .int 0
/-- a row of a renamed constructor -/
structure RnOk (x : Con) (r : Rw) (new : Str) : Prop where
  nm : r.nm = x.nm
  len : r.ps.length = x.ar
  nd : r.ps.Nodup
  t : ∃ os : List Nat, os.Perm (List.range x.ar) ∧ r.t = .node new (os.map (vAt r.ps))
  wp : ∀ w ∈ r.ps, Wd w
  wn : Wd new
structure Rn3 (x : Con) (r : Rw) (y : Con) : Prop where
  ok : RnOk x r y.nm
  ar : y.ar = x.ar
  kd : y.kd = x.kd
structure RnA (cs : List Con) (R : List Rw) : Prop where
  len : R.length = cs.length
  one : ∀ (i : Nat) (x : Con) (r : Rw), cs[i]? = some x → R[i]? = some r → ∃ new, RnOk x r new
theorem lookA_nd {β : Type} : ∀ {ps : List Str} {ks : List β} {i : Nat} {w : Str} {k : β}, ps.Nodup → ps[i]? = some w → ks[i]? = some k → lookA (ps.zip ks) w = some k
  | p :: ps, a :: ks, 0, w, k, nd, h1, h2 => by
    cases h1; cases h2
    rw [List.zip_cons_cons, lookA_cons]
    have : lookA (ps.zip ks) p = none := by
      cases e : lookA (ps.zip ks) p with
      | none => rfl
      | some t =>
        have main : ∀ (l : List (Str × β)) (s : Str) (t : β), lookA l s = some t → s ∈ l.map Prod.fst := fun l => by
          induction l with
          | nil => intro s t h; cases h
          | cons q l ih =>
            intro s t h
            rw [lookA_cons] at h
            cases e2 : lookA l s with
            | some u => exact List.mem_cons_of_mem _ (ih s u e2)
            | none =>
              rw [e2] at h
              dsimp only at h
              by_cases z : q.1 = s
              · rw [← z]; exact List.mem_cons_self
              · rw [if_neg z] at h; cases h
        have := main _ _ _ e
        obtain ⟨q, hq, rfl⟩ := List.mem_map.mp this
        exact absurd (List.of_mem_zip hq).1 (List.nodup_cons.mp nd).1
    rw [this]
    exact if_pos rfl
  | p :: ps, a :: ks, i + 1, w, k, nd, h1, h2 => by
    rw [List.zip_cons_cons, lookA_cons, lookA_nd (List.nodup_cons.mp nd).2 (by simpa using h1) (by simpa using h2)]
/-- what a renamed node is -/
theorem RnOk.fill {x : Con} {r : Rw} {new : Str} (h : RnOk x r new) {ks : List Tm} (hl : ks.length = x.ar) : ∃ os : List Nat, os.Perm (List.range ks.length) ∧ r.t.fill (r.ps.zip ks) = .node new (os.map fun o => ks[o]?.getD (.int 0)) := by
  obtain ⟨os, pm, e⟩ := h.t
  refine ⟨os, by rw [hl]; exact pm, ?_⟩
  rw [e, Tm.fill_eq]
  show Tm.node new ((os.map (vAt r.ps)).map (Tm.fill (r.ps.zip ks))) = _
  rw [List.map_map]
  refine congrArg (Tm.node new) (List.map_congr_left fun o ho => ?_)
  have ho : o < x.ar := List.mem_range.mp (pm.mem_iff.mp ho)
  have hp : o < r.ps.length := by rw [h.len]; exact ho
  have hk : o < ks.length := by omega
  show Tm.fill (r.ps.zip ks) (vAt r.ps o) = _
  unfold vAt
  rw [List.getElem?_eq_getElem hp, List.getElem?_eq_getElem hk]
  rw [Tm.fill_eq]
  show (lookA (r.ps.zip ks) r.ps[o]).getD _ = _
  rw [lookA_nd h.nd (List.getElem?_eq_getElem hp) (List.getElem?_eq_getElem hk)]
  rfl
theorem range_perm {ks : List Tm} {os : List Nat} (pm : os.Perm (List.range ks.length)) : (os.map fun o => ks[o]?.getD (.int 0)).Perm ks := by
  have e : (List.range ks.length).map (fun o => ks[o]?.getD (.int 0)) = ks := by
    refine List.ext_getElem (by rw [List.length_map, List.length_range]) fun i h1 h2 => ?_
    rw [List.getElem_map, List.getElem_range, List.getElem?_eq_getElem h2]; rfl
  have := pm.map fun o => ks[o]?.getD (.int 0)
  rw [e] at this
  exact this
def Rcov (cs : List Con) (R : List Rw) : Prop := ∀ x ∈ cs, ∃ r ∈ R, r.nm = x.nm ∧ ∃ new, RnOk x r new
theorem RnA.cov {cs : List Con} {R : List Rw} (h : RnA cs R) : Rcov cs R := fun x hx => by
  obtain ⟨i, hi⟩ := List.getElem?_of_mem hx
  have := (List.getElem?_eq_some_iff.mp hi).1
  have hR : i < R.length := by rw [h.len]; exact this
  obtain ⟨new, o⟩ := h.one i x R[i] hi (List.getElem?_eq_getElem hR)
  exact ⟨R[i], List.getElem_mem hR, o.nm, new, o⟩
theorem RnA.con {cs : List Con} {R : List Rw} (h : RnA cs R) {r : Rw} (hr : r ∈ R) : ∃ x ∈ cs, ∃ new, RnOk x r new := by
  obtain ⟨i, hi⟩ := List.getElem?_of_mem hr
  have := (List.getElem?_eq_some_iff.mp hi).1
  have hc : i < cs.length := by rw [← h.len]; exact this
  exact ⟨cs[i], List.getElem_mem hc, h.one i cs[i] r (List.getElem?_eq_getElem hc) hi⟩
theorem RnA.names {cs : List Con} {R : List Rw} (h : RnA cs R) : R.map Rw.nm = cs.map Con.nm := by
  refine List.ext_getElem (by rw [List.length_map, List.length_map, h.len]) fun i h1 h2 => ?_
  rw [List.length_map] at h1 h2
  rw [List.getElem_map, List.getElem_map]
  obtain ⟨new, o⟩ := h.one i cs[i] R[i] (List.getElem?_eq_getElem h2) (List.getElem?_eq_getElem h1)
  exact o.nm
theorem RnA.rwp {cs : List Con} {R : List Rw} (ck : CsOk cs) (h : RnA cs R) : RwP R := by
  have one : ∀ r ∈ R, r.ps.length ≤ 3 ∧ Al plN r.t ∧ r.t.ht ≤ 9 := fun r hr => by
    obtain ⟨x, hx, new, o⟩ := h.con hr
    have h3 := (ck.ok x hx).ar
    obtain ⟨os, pm, e⟩ := o.t
    have lo : os.length ≤ 3 := by rw [pm.length_eq, List.length_range]; exact h3
    have leaf : ∀ k ∈ os.map (vAt r.ps), k.kids = [] ∧ plN k := fun k hk => by
      obtain ⟨q, _, rfl⟩ := List.mem_map.mp hk
      unfold vAt
      split
      · exact ⟨rfl, Nat.zero_le _, fun _ _ z => (nomatch z), fun _ z => nomatch z⟩
      · exact ⟨rfl, Nat.zero_le _, fun _ _ z => (nomatch z), fun _ z => nomatch z⟩
    refine ⟨by rw [o.len]; exact h3, ?_, ?_⟩
    · rw [e]
      refine .mk ⟨by show (os.map (vAt r.ps)).length ≤ 1000; rw [List.length_map]; omega, fun _ _ z => (nomatch z), fun _ z => nomatch z⟩ fun k hk => ?_
      have := leaf k hk
      exact .mk this.2 fun j hj => by rw [this.1] at hj; cases hj
    · rw [e]
      have := Tm.ht_le (t := .node new (os.map (vAt r.ps))) (n := 1) fun k hk => by rw [(Tm.ht1 (leaf k hk).1).1]; exact Nat.le_refl _
      omega
  exact ⟨by rw [h.names]; exact ck.nd, by rw [h.len]; have := ck.le; omega, fun r hr => (one r hr).1, fun r hr => (one r hr).2.1, fun r hr => (one r hr).2.2⟩
/-! terms over the constructors can be translated -/
theorem Gr_okT {cs : List Con} {ns : List Str} {R : List Rw} (ck : CsOk cs) (ln : ns.length ≤ 1000) (cv : Rcov cs R) : ∀ (t : Tm) (b : Bool), Gr cs ns b t → okT R t := by
  refine Tm.ind fun t ih b h => ?_
  cases h with
  | atom h =>
    refine .mk ⟨by rw [h.kids]; exact Nat.zero_le _, fun c ts e => ?_⟩ fun k hk => by rw [h.kids] at hk; cases hk
    rw [e] at h; exact h.elim
  | map h1 h2 h3 h4 =>
    rename_i es
    refine .mk ⟨by show (es.map Prod.snd).length ≤ _; rw [List.length_map]; omega, fun c ts e => nomatch e⟩ fun k hk => ?_
    obtain ⟨z, hz, rfl⟩ := List.mem_map.mp (show k ∈ es.map Prod.snd from hk)
    exact ih _ hk _ (h4 z hz)
  | node h1 h2 h3 h4 =>
    rename_i y ts
    refine .mk ⟨by show ts.length ≤ _; have := (ck.ok y h1).ar; omega, fun c ts' e => ?_⟩ fun k hk => ?_
    · cases e
      obtain ⟨r, hr, e1, new, o⟩ := cv y h1
      exact ⟨r, hr, e1, by rw [o.len, h2]⟩
    · obtain ⟨i, hi⟩ := List.getElem?_of_mem (show k ∈ ts from hk)
      exact ih k hk _ (h4 i k hi)
theorem Pat_okT {cs : List Con} {ns : List Str} {R : List Rw} (ck : CsOk cs) (cv : Rcov cs R) : ∀ (t : Tm) (b : Bool), PatOk cs ns b t → okT R t := by
  refine Tm.ind fun t ih b h => ?_
  cases h with
  | atom h =>
    refine .mk ⟨by rw [h.kids]; exact Nat.zero_le _, fun c ts e => ?_⟩ fun k hk => by rw [h.kids] at hk; cases hk
    rw [e] at h; exact h.elim
  | var => exact .mk ⟨Nat.zero_le _, fun c ts e => nomatch e⟩ fun k hk => by cases hk
  | node h1 h2 h3 h4 =>
    rename_i y ts
    refine .mk ⟨by show ts.length ≤ _; have := (ck.ok y h1).ar; omega, fun c ts' e => ?_⟩ fun k hk => ?_
    · cases e
      obtain ⟨r, hr, e1, new, o⟩ := cv y h1
      exact ⟨r, hr, e1, by rw [o.len, h2]⟩
    · obtain ⟨i, hi⟩ := List.getElem?_of_mem (show k ∈ ts from hk)
      exact ih k hk _ (h4 i k hi)
theorem okT_leaf {R : List Rw} {t : Tm} (h : t.kids = []) (hn : ∀ c ts, t ≠ .node c ts) : okT R t :=
  .mk ⟨by rw [h]; exact Nat.zero_le _, fun c ts e => absurd e (hn c ts)⟩ fun k hk => by rw [h] at hk; cases hk
theorem Fo_okT {e : FE} {su : List Str} {R : List Rw} (ck : CsOk e.cs) (ln : e.ns.length ≤ 25) (cd : CdsOk e.ns su e.ds) (cv : Rcov e.cs R) : ∀ (k : FK) (t : Tm), Fo e k t → okT R t := by
  have form : ∀ (f : Fm) (ts : List Tm), ts.length ≤ 3 → (∀ x ∈ ts, okT R x) → okT R (.form f ts) := fun f ts h1 h2 => .mk ⟨by show ts.length ≤ _; omega, fun c ts e => nomatch e⟩ h2
  have node : ∀ (y : Con) (ts : List Tm), y ∈ e.cs → ts.length = y.ar → (∀ x ∈ ts, okT R x) → okT R (.node y.nm ts) := fun y ts hy hl h2 => by
    refine .mk ⟨by show ts.length ≤ _; have := (ck.ok y hy).ar; omega, fun c ts' e => ?_⟩ h2
    cases e
    obtain ⟨r, hr, e1, new, o⟩ := cv y hy
    exact ⟨r, hr, e1, by rw [o.len, hl]⟩
  have key : ∀ {x : Tm}, ((∃ s ∈ e.ns, x = .name s) ∨ ∃ w, x = .var w) → okT R x := fun h => by
    rcases h with ⟨s, _, rfl⟩ | ⟨w, rfl⟩
    · exact okT_leaf rfl fun _ _ z => nomatch z
    · exact okT_leaf rfl fun _ _ z => nomatch z
  intro k t h
  induction h with
  | ivar => exact okT_leaf rfl fun _ _ z => nomatch z
  | ilit => exact okT_leaf rfl fun _ _ z => nomatch z
  | iop _ _ _ ia ib => exact form _ _ (by show 2 ≤ 3; decide) fun x hx => by rcases List.mem_cons.mp hx with rfl | hx; exact ia; rw [List.mem_singleton.mp hx]; exact ib
  | mvar => exact okT_leaf rfl fun _ _ z => nomatch z
  | mlit h1 h2 h3 ih =>
    rename_i es
    have : es.length ≤ 1000 := by
      have : (es.map Prod.fst).length ≤ e.ns.length := nd_le h1 fun x hx => by obtain ⟨z, hz, rfl⟩ := List.mem_map.mp hx; exact h2 z hz
      rw [List.length_map] at this; omega
    refine .mk ⟨by show (es.map Prod.snd).length ≤ _; rw [List.length_map]; exact this, fun c ts e => nomatch e⟩ fun k hk => ?_
    obtain ⟨z, hz, rfl⟩ := List.mem_map.mp (show k ∈ es.map Prod.snd from hk)
    exact ih z hz
  | set hm hk hv im iv =>
    refine form _ _ (by show 3 ≤ 3; decide) fun x hx => ?_
    rcases List.mem_cons.mp hx with rfl | hx
    · exact im
    rcases List.mem_cons.mp hx with rfl | hx
    · exact key (hk.imp id fun ⟨w, _, _, z⟩ => ⟨w, z⟩)
    · rw [List.mem_singleton.mp hx]; exact iv
  | wvar => exact okT_leaf rfl fun _ _ z => nomatch z
  | wint _ ih => exact ih
  | wget hc =>
    refine form _ _ (by show 2 ≤ 3; decide) fun x hx => ?_
    rcases List.mem_cons.mp hx with rfl | hx
    · exact okT_leaf rfl fun _ _ z => nomatch z
    · rw [List.mem_singleton.mp hx]
      have : Cd.pos e.ns su (.has _ _) := cd.ok _ hc
      exact key (this.2.imp id fun ⟨w, _, z⟩ => ⟨w, z⟩)
  | wset _ ih => exact ih
  | watom h => exact okT_leaf h.kids fun c ts z => by rw [z] at h; exact h
  | @wnode y ts hy _ hl h1 h2 i1 i2 =>
    refine node _ _ hy hl fun x hx => ?_
    obtain ⟨i, hi⟩ := List.getElem?_of_mem hx
    by_cases z : (i : Int) ∈ y.pl
    · exact i1 i x hi z
    · exact i2 i x hi z
  | @fnode y ts hy hl h1 h2 i1 i2 =>
    refine node _ _ hy hl fun x hx => ?_
    obtain ⟨i, hi⟩ := List.getElem?_of_mem hx
    by_cases z : (i : Int) ∈ y.pl ∧ y.kd = ("value" : Str)
    · exact i1 i x hi z
    · exact i2 i x hi z
  | fvar => exact okT_leaf rfl fun _ _ z => nomatch z
  | fworth _ ih => exact ih
/-- a translation is as large and as high as its term -/
theorem size_withK {t : Tm} {ks : List Tm} (hl : ks.length = t.kids.length) : (t.withKids ks).size = 1 + (ks.map Tm.size).sum ∧ (t.withKids ks).ht = 1 + (ks.map Tm.ht).foldr max 0 := by
  rw [Tm.size_eq, Tm.ht_eq, Tm.kids_with hl]
  exact ⟨rfl, rfl⟩
theorem fmax_perm {l m : List Nat} (h : l.Perm m) : l.foldr max 0 = m.foldr max 0 :=
  Nat.le_antisymm (fmax_le fun x hx => le_fmax (h.mem_iff.mp hx)) (fmax_le fun x hx => le_fmax (h.mem_iff.mpr hx))
theorem trans_same {cs : List Con} {R : List Rw} (ck : CsOk cs) (A : RnA cs R) : ∀ t : Tm, okT R t → (t.trans R).size = t.size ∧ (t.trans R).ht = t.ht := by
  refine Tm.ind fun t ih ok => ?_
  have kids : (t.kids.map (Tm.trans R)).map Tm.size = t.kids.map Tm.size ∧ (t.kids.map (Tm.trans R)).map Tm.ht = t.kids.map Tm.ht := by
    rw [List.map_map, List.map_map]
    exact ⟨List.map_congr_left fun k hk => (ih k hk (ok.kid hk)).1, List.map_congr_left fun k hk => (ih k hk (ok.kid hk)).2⟩
  by_cases hn : ∃ c ts, t = .node c ts
  · obtain ⟨c, ts, rfl⟩ := hn
    obtain ⟨r, hr, rfl, hl⟩ := ok.at_.2 c ts rfl
    obtain ⟨x, hx, new, o⟩ := A.con hr
    have rp := A.rwp ck
    rw [trans_node (rowOf_mem rp.nd hr)]
    obtain ⟨os, pm, e⟩ := o.fill (ks := ts.map (Tm.trans R)) (by rw [List.length_map, ← hl, o.len])
    rw [e, Tm.size_eq, Tm.ht_eq, Tm.size_eq (.node r.nm ts), Tm.ht_eq (.node r.nm ts)]
    have p := range_perm pm
    have h1 := (p.map Tm.size).sum_nat
    have h2 := fmax_perm (p.map Tm.ht)
    show 1 + ((os.map fun o => (ts.map (Tm.trans R))[o]?.getD (.int 0)).map Tm.size).sum = 1 + (ts.map Tm.size).sum ∧ 1 + ((os.map fun o => (ts.map (Tm.trans R))[o]?.getD (.int 0)).map Tm.ht).foldr max 0 = 1 + (ts.map Tm.ht).foldr max 0
    rw [h1, h2]
    have k1 : (ts.map (Tm.trans R)).map Tm.size = ts.map Tm.size := kids.1
    have k2 : (ts.map (Tm.trans R)).map Tm.ht = ts.map Tm.ht := kids.2
    rw [k1, k2]
    exact ⟨rfl, rfl⟩
  · have e : t.trans R = t.withKids (t.kids.map (Tm.trans R)) := by
      rw [Tm.trans_eq]
      cases t <;> first | rfl | exact absurd ⟨_, _, rfl⟩ hn
    have := size_withK (t := t) (ks := t.kids.map (Tm.trans R)) (by rw [List.length_map])
    rw [e, this.1, this.2, kids.1, kids.2, ← Tm.size_eq, ← Tm.ht_eq]
    exact ⟨rfl, rfl⟩
end PK
namespace PK
open PySem L2
/-! a renamed language -/
structure RnR (cs : List Con) (R : List Rw) (ys : List Con) : Prop where
  l1 : R.length = cs.length
  l2 : ys.length = cs.length
  one : ∀ (i : Nat) (x : Con) (r : Rw) (y : Con), cs[i]? = some x → R[i]? = some r → ys[i]? = some y → Rn3 x r y
theorem RnR.snoc {cs ys : List Con} {R : List Rw} {i : Nat} {x y : Con} {r : Rw} (h : RnR (cs.take i) R ys) (e : cs[i]? = some x) (o : Rn3 x r y) : RnR (cs.take (i + 1)) (R ++ [r]) (ys ++ [y]) := by
  have hi := (List.getElem?_eq_some_iff.mp e).1
  have l0 : (cs.take i).length = i := by rw [List.length_take]; omega
  have l1 := h.l1
  have l2 := h.l2
  rw [take_snoc e]
  refine ⟨by rw [List.length_append, List.length_append, h.l1]; rfl, by rw [List.length_append, List.length_append, h.l2]; rfl, fun j x' r' y' h1 h2 h3 => ?_⟩
  by_cases hj : j < i
  · rw [List.getElem?_append_left (by omega)] at h1 h2 h3
    exact h.one j x' r' y' h1 h2 h3
  · have z := (List.getElem?_eq_some_iff.mp h1).1
    rw [List.length_append] at z
    have z1 : [x].length = 1 := rfl
    have : j = i := by omega
    subst this
    rw [List.getElem?_append_right (by omega), l0, Nat.sub_self] at h1
    rw [List.getElem?_append_right (by omega), l1, l0, Nat.sub_self] at h2
    rw [List.getElem?_append_right (by omega), l2, l0, Nat.sub_self] at h3
    cases h1; cases h2; cases h3
    exact o
theorem RnR.a {cs ys : List Con} {R : List Rw} (h : RnR cs R ys) : RnA cs R := ⟨h.l1, fun i x r h1 h2 => by
  have hi := (List.getElem?_eq_some_iff.mp h1).1
  have hy : i < ys.length := by rw [h.l2]; exact hi
  exact ⟨_, (h.one i x r ys[i] h1 h2 (List.getElem?_eq_getElem hy)).ok⟩⟩
def spRen (K : PySem.W.Frag) : Sp := fun vs H Q _ => ∃ (l c p an : Addr) (cs : List Con) (ns : List Str) (rs : List Rl), vs = [.ref l, .ref p] ∧ LgP K H l c p an cs ns rs ∧
  ∀ (H' : Hp) (a p' : Addr) (vr : V) (ys : List Con) (R : List Rw) (rd : List PyData), Ext l c H H' → SqT K H' a [.ref p', vr] → LgAt K H' p' an ys rd → Dt K H' vr (.tuple (R.map Rw.d)) → RnR cs R ys → (ys.map Con.nm).Nodup → rd.length ≤ 5 → Q (.ref a) H'
theorem DtAll.strs {K : PySem.W.Frag} {H : Hp} : ∀ ss : List Str, DtAll K H (ss.map V.str) (ss.map PyData.str)
  | [] => .nil
  | s :: r => .cons (.str s) (DtAll.strs r)
theorem act_seq {e : FE} {R : List Rw} {a : Act} (h : a.Ok e) (fo : ∀ k t, Fo e k t → okT R t) : ∃ (g : Str) (its : List (PyData ⊕ Tm)), SeqT R 20 g its ∧ a.d = .tuple (.str g :: its.map ItD) := by
  have ad : ∀ {t : Tm}, AdOk e t → t.ht + 1 < 20 ∧ okT R t := fun {t} h => by
    rcases h with ⟨n, _, _, rfl⟩ | ⟨w, _, _, rfl⟩
    · exact ⟨by rw [(Tm.ht1 rfl).1]; decide, okT_leaf rfl fun _ _ z => nomatch z⟩
    · exact ⟨by rw [(Tm.ht1 rfl).1]; decide, okT_leaf rfl fun _ _ z => nomatch z⟩
  have mk : ∀ (g : Str) (its : List (PyData ⊕ Tm)), g ≠ "map" → g ≠ "node" → (∀ i ∈ its, ItOk R 20 i) → its.length ≤ 2 → SeqT R 20 g its := fun g its h1 h2 h3 h4 => ⟨h1, h2, h3, by omega⟩
  cases a with
  | put t => exact ⟨"put", [.inr t], mk _ _ (by decide +kernel) (by decide +kernel) (fun i hi => by rw [List.mem_singleton.mp hi]; exact ⟨by have := h.2; omega, fo _ _ h.1⟩) (by show 1 ≤ 2; decide), rfl⟩
  | write a t => exact ⟨"write", [.inr a, .inr t], mk _ _ (by decide +kernel) (by decide +kernel) (fun i hi => by
      rcases List.mem_cons.mp hi with rfl | hi
      · exact ad h.1
      · rw [List.mem_singleton.mp hi]; exact ⟨by have := h.2.2; omega, fo _ _ h.2.1⟩) (Nat.le_refl 2), rfl⟩
  | read a w => exact ⟨"read", [.inr a, .inl (.str w)], mk _ _ (by decide +kernel) (by decide +kernel) (fun i hi => by
      rcases List.mem_cons.mp hi with rfl | hi
      · exact ad h
      · rw [List.mem_singleton.mp hi]; exact .inl ⟨w, rfl⟩) (Nat.le_refl 2), rfl⟩
  | new t w => exact ⟨"new", [.inr t, .inl (.str w)], mk _ _ (by decide +kernel) (by decide +kernel) (fun i hi => by
      rcases List.mem_cons.mp hi with rfl | hi
      · exact ⟨by have := h.2; omega, fo _ _ h.1⟩
      · rw [List.mem_singleton.mp hi]; exact .inl ⟨w, rfl⟩) (Nat.le_refl 2), rfl⟩
/-- what of a rule is translated -/
theorem Rl.tr {cs : List Con} {ns ms : List Str} {R : List Rw} {r : Rl} (ck : CsOk cs) (A : RnA cs R) (ln : ns.length ≤ 25) (h : r.ok cs ns ms) : okT R r.pat ∧ okT R r.frm ∧ ∀ a, r.act = some a → ∃ (g : Str) (its : List (PyData ⊕ Tm)), SeqT R 20 g its ∧ a.d = .tuple (.str g :: its.map ItD) := by
  refine ⟨Pat_okT ck A.cov _ _ h.pat.ok, ?_, fun a ha => act_seq (h.act a ha) fun k t z => Fo_okT (su := swd cs true r.pat) (e := r.e0 cs ns) ck ln h.cd A.cov k t z⟩
  obtain ⟨ec, en, ed⟩ := FE.act_k (r.e0 cs ns) r.act
  exact Fo_okT (su := swd cs true r.pat) (by rw [ec]; exact ck) (by rw [en]; exact ln) (by rw [en, ed]; exact h.cd) (by rw [ec]; exact A.cov) _ _ h.frm
theorem first_at {os : List Nat} {q : Nat} (h : q ∈ os) : ∃ j : Nat, os[j]? = some q ∧ ∀ (m z : Nat), m < j → os[m]? = some z → z ≠ q := by
  induction os with
  | nil => cases h
  | cons a os ih =>
    by_cases e : a = q
    · exact ⟨0, by rw [← e]; rfl, fun m z hm => nomatch hm⟩
    · have h : q ∈ os := (List.mem_cons.mp h).resolve_left fun z => e z.symm
      obtain ⟨j, h1, h2⟩ := ih h
      refine ⟨j + 1, h1, fun m z hm hz => ?_⟩
      cases m with
      | zero => cases hz; exact e
      | succ m => exact h2 m z (by omega) hz
section
variable {P : Program} {w : World} {K : PySem.W.Frag} {mg : Str → Option Value} {base : Heap}
abbrev s_law_renamed : Stmt := topS 49
theorem sc_law_renamed : FnScope ["pool", "language", "words", "constructors", "rows", "k", "row", "order", "parameters", "strict", "template", "rules", "rule", "pattern", "place"] ["pool", "language"] (defScope s_law_renamed) := ⟨rfl, rfl, rfl, by decide +kernel, rfl, by decide +kernel, by decide +kernel⟩
-- slots: 0:pool 1:language 2:words 3:constructors 4:rows 5:k 6:row 7:order(cell) 8:parameters(cell) 9:strict 10:template 11:rules 12:rule 13:pattern 14:place(comp)
theorem ok_renamed {f : Addr} {fd : FuncData} (F : Fun K "_law_renamed" "_law_renamed" s_law_renamed f fd) (T : Txt K mg) (C_law_words : C8.Cal P w K mg base 3 "_law_words" spWords []) (C_law_mixed : C8.Cal P w K mg base 3 "_law_mixed" spMixed []) (C_law_translate : C8.Cal P w K mg base 30 "_law_translate" (spTrl K 20) []) (C_law_own : C8.Cal P w K mg base 1 "_law_own" (spOwn K) []) : FnOk P w K mg base CX0 31 f fd ["pool", "language"] (spRen K) := by
  refine F.ok sc_law_renamed (fun vs H Q E h => ?_) (fun cdv A outer s H vs Q E hr h => ?_)
  · obtain ⟨_, _, _, _, _, _, _, rfl, _⟩ := h
    rfl
  obtain ⟨l, c, p, an, cs, ns, rs, rfl, LP, q⟩ := h
  refine ⟨_, (pss_cons (ps_set (i := 2) sc_law_renamed.nd rfl (Or.inl rfl) (C8.pe_c C_law_words hr (by decide) rfl (pa_cons (pv 0) (pa_cons (pe_callB call_len_seq (by rfl) T.z_len (by decide +kernel) (pa_cons (pe_dget (hu_of hr) (pv 1) pe_str (fun _ _ => rfl)) pa_nil)) pa_nil))))
    (pss_cons (ps_set (i := 3) sc_law_renamed.nd rfl (Or.inl rfl) (pe_lst pa_nil))
    (pss_cons (ps_set (i := 4) sc_law_renamed.nd rfl (Or.inl rfl) (pe_lst pa_nil))
    (pss_cons (ps_for PassesOwn.never rfl (pi_range1 (by rfl) T.z_range (pa_cons (pe_callB call_len_seq (by rfl) T.z_len (by decide +kernel) (pa_cons (pv 2) pa_nil)) pa_nil)) (pg_name (i := 5) sc_law_renamed.nd rfl (Or.inl rfl)) (pss_cons (ps_set (i := 6) sc_law_renamed.nd rfl (Or.inl rfl) (pe_ix ix_tup (pe_dget (hu_of hr) (pv 1) pe_str (fun _ _ => rfl)) (pv 5) (fun _ _ => rfl)))
    (pss_cons (ps_set (i := 7) sc_law_renamed.nd rfl (Or.inr rfl) (C8.pe_c C_law_mixed hr (by decide) rfl (pa_cons (pv 0) (pa_cons (pe_ix ix_tup (pv 6) pe_int (fun _ _ => rfl)) pa_nil))))
    (pss_cons (ps_set (i := 8) sc_law_renamed.nd rfl (Or.inr rfl) (C8.pe_c C_law_words hr (by decide) rfl (pa_cons (pv 0) (pa_cons (pe_ix ix_tup (pv 6) pe_int (fun _ _ => rfl)) pa_nil))))
    (pss_cons (ps_set (i := 9) sc_law_renamed.nd rfl (Or.inl rfl) (pe_callTy call_tuple_of (by rfl) T.z_tuple (by decide +kernel) (pa_cons (pe_lc (own := [("place", 14)]) (g := (gName 14)) (tt := tYes) (by rfl) sc_law_renamed.nd (pi_tup (pe_ix ix_tup (pv 6) pe_int (fun _ _ => rfl))) (blkOk_by (N := ["pool", "language", "words", "constructors", "rows", "k", "row", "order", "parameters", "strict", "template", "rules", "rule", "pattern", "place"]) (sc := defScope s_law_renamed) (by decide +kernel)) (fun _ _ _ _ _ => (pg_name (i := 14) sc_law_renamed.nd rfl (Or.inl rfl))) (fun _ _ _ _ _ => pts_nil) (fun _ _ _ _ _ => (L2.PKAg.pe_bmK (K := K) (r := rIndex K) rfl PySem.F.plainAttrs_list PySem.F.slot_list_index PySem.F.type_list_index mt_index (pv 7) (pa_cons (pv 14) pa_nil)))) pa_nil)))
    (pss_cons (ps_expr (pe_bm PySem.F.plainAttrs_list PySem.F.slot_list_append PySem.F.type_list_append mt_append (pv 3) (pa_cons (pe_tup (pa_cons (pe_ix ix_list (pv 2) (pv 5) (fun _ _ => rfl)) (pa_cons (pe_ix ix_tup (pv 6) pe_int (fun _ _ => rfl)) (pa_cons (pe_ix ix_tup (pv 6) pe_int (fun _ _ => rfl)) (pa_cons (pv 9) pa_nil))))) pa_nil)))
    (pss_cons (ps_set (i := 10) sc_law_renamed.nd rfl (Or.inl rfl) (pe_tup (pa_cons pe_str (pa_cons (pe_ix ix_list (pv 2) (pv 5) (fun _ _ => rfl)) (pa_cons (pe_callTy call_tuple_of (by rfl) T.z_tuple (by decide +kernel) (pa_cons (pe_lc (own := [("place", 14)]) (g := (gName 14)) (tt := tYes) (by rfl) sc_law_renamed.nd (pi_list (pv 7)) (blkOk_by (N := ["pool", "language", "words", "constructors", "rows", "k", "row", "order", "parameters", "strict", "template", "rules", "rule", "pattern", "place"]) (sc := defScope s_law_renamed) (by decide +kernel)) (fun _ _ _ _ _ => (pg_name (i := 14) sc_law_renamed.nd rfl (Or.inl rfl))) (fun _ _ _ _ _ => pts_nil) (fun _ _ _ _ _ => (pe_tup (pa_cons pe_str (pa_cons (pe_ix (r := rIxL K) ix_list (pv 8) (pv 14) (fun _ _ => rfl)) pa_nil))))) pa_nil)) pa_nil)))))
    (pss_one (ps_expr (pe_bm PySem.F.plainAttrs_list PySem.F.slot_list_append PySem.F.type_list_append mt_append (pv 4) (pa_cons (pe_tup (pa_cons (pe_ix ix_tup (pv 6) pe_int (fun _ _ => rfl)) (pa_cons (pe_callTy call_tuple_of (by rfl) T.z_tuple (by decide +kernel) (pa_cons (pv 8) pa_nil)) (pa_cons (pv 10) pa_nil)))) pa_nil)))))))))))
    (pss_cons (ps_set (i := 11) sc_law_renamed.nd rfl (Or.inl rfl) (pe_lst pa_nil))
    (pss_cons (ps_for PassesOwn.never rfl (pi_tup (pe_dget (hu_of hr) (pv 1) pe_str (fun _ _ => rfl))) (pg_name (i := 12) sc_law_renamed.nd rfl (Or.inl rfl)) (pss_cons (ps_set (i := 13) sc_law_renamed.nd rfl (Or.inl rfl) (C8.pe_c C_law_translate hr (by decide) rfl (pa_cons (pv 4) (pa_cons (pe_ix ix_tup (pv 12) pe_int (fun _ _ => rfl)) pa_nil))))
    (pss_one (ps_expr (pe_bm PySem.F.plainAttrs_list PySem.F.slot_list_append PySem.F.type_list_append mt_append (pv 11) (pa_cons (pe_tup (pa_cons (pe_ix ix_tup (pv 12) pe_int (fun _ _ => rfl)) (pa_cons (pv 13) (pa_cons (pe_ix ix_tup (pv 12) pe_int (fun _ _ => rfl)) (pa_cons (C8.pe_c C_law_translate hr (by decide) rfl (pa_cons (pv 4) (pa_cons (pe_ix ix_tup (pv 12) pe_int (fun _ _ => rfl)) pa_nil))) (pa_cons (C8.pe_c C_law_translate hr (by decide) rfl (pa_cons (pv 4) (pa_cons (pe_ix ix_tup (pv 12) pe_int (fun _ _ => rfl)) pa_nil))) pa_nil)))))) pa_nil))))))
    (pss_one (ps_ret (pe_tup (pa_cons (C8.pe_c C_law_own hr (by decide) rfl (pa_cons (pv 3) (pa_cons (pv 11) (pa_cons (pe_dget (hu_of hr) (pv 1) pe_str (fun _ _ => rfl)) pa_nil)))) (pa_cons (pe_callTy call_tuple_of (by rfl) T.z_tuple (by decide +kernel) (pa_cons (pv 4) pa_nil)) pa_nil))))))))))), ?_⟩
  have three : ∀ x y z : V, [x, y, z].length ≤ sizeLine := fun x y z => small (by show 3 ≤ _; decide)
  have P0 := LP.pool
  have L0 := LP.ok
  have lcs := L0.two.2
  obtain ⟨kvs, kvo, po, pr, pu, hp, e1, e2, e3, e4, drr, dru, hpo, gof⟩ := LP.at_.out
  have nl : p ≠ l := fun z => by
    obtain ⟨_, _, _, _, hl, _⟩ := P0
    rw [z, hl] at hp; cases hp
  have gg : ∀ {H' : Hp} (k : Str) (v : V), Ext l c H H' → valV kvs (.inr k) = some v → DGet H' p (.str k) (some v) := fun {H'} k v x e => by
    have z := DGet.k (k := Sum.inr k) (x.keep _ _ nl hp)
    rw [e] at z
    exact z
  have gr := gg "rows" _ (Ext.refl P0) e1
  obtain ⟨pr2, cv, epr, hcv, dcv⟩ := Dt.tn drr
  cases epr
  have lcv : cv.length = cs.length := by rw [dcv.lenD, List.length_map]
  refine ⟨_, rfl, _, rfl, p, _, rfl, gr, pr, _, rfl, .inr hcv, l, c, cv.length, rfl, P0, by omega, fun H1 pw ws x1 hpw0 hpw lws ndw wws => ?_⟩
  have npw := P0.ne hpw0
  -- the two lists
  refine ⟨Nat.zero_le _, fun CL hCL => ⟨Nat.zero_le _, fun RL hRL => ?_⟩⟩
  have x2 := x1.new (o := .lst []) P0 hCL
  have x3 := x2.new (o := .lst []) P0 hRL
  have fCL : H CL = none := x1.free P0 hCL
  have fRL : H RL = none := x2.free P0 hRL
  have nCL := P0.ne fCL
  have nRL := P0.ne fRL
  have nCR : CL ≠ RL := ne_of_none (show (upd H1 CL (.lst [])) CL = some (.lst []) from upd_same) hRL
  have nwC : pw ≠ CL := ne_of_none hpw hCL
  have hCL3 : (upd (upd H1 CL (.lst [])) RL (.lst [])) CL = some (.lst []) := by rw [upd_ne nCR, upd_same]
  have hRL3 : (upd (upd H1 CL (.lst [])) RL (.lst [])) RL = some (.lst []) := upd_same
  have hpw2 : (upd H1 CL (.lst [])) pw = some (.lst (ws.map V.str)) := by rw [upd_ne nwC]; exact hpw
  have nwR : pw ≠ RL := ne_of_none hpw2 hRL
  have hpw3 : (upd (upd H1 CL (.lst [])) RL (.lst [])) pw = some (.lst (ws.map V.str)) := by rw [upd_ne nwR]; exact hpw2
  generalize upd (upd H1 CL (HO.lst [])) RL (HO.lst []) = H3 at *
  refine ⟨_, rfl, pw, _, rfl, .inl (SqL.of hpw3), _, rfl, by omega, by rw [List.length_map]; omega, for_range (lo := 0) (n := (((ws.map V.str).length : Nat) : Int).toNat) (fun k σ H' => ∃ (yv : List V) (ys : List Con) (rv : List V) (R : List Rw) (o5 o6 o7 o8 o9 o10 : Option V), σ = [some (.ref l), some (.ref p), some (.ref pw), some (.ref CL), some (.ref RL), o5, o6, o7, o8, o9, o10, none, none, none, none] ∧ Ext l c H H' ∧ H' pw = some (.lst (ws.map V.str)) ∧ H' CL = some (.lst yv) ∧ DtAll K H' yv (ys.map Con.d) ∧ H' RL = some (.lst rv) ∧ DtAll K H' rv (R.map Rw.d) ∧ RnR (cs.take k) R ys ∧ ys.map Con.nm = ws.take k) ?_ ?_ ?_⟩
  · exact ⟨[], [], [], [], _, _, _, _, _, _, rfl, x3, hpw3, hCL3, .nil, hRL3, .nil, ⟨rfl, rfl, fun i x r y h => by simp at h⟩, by simp⟩
  · rintro k σ H4 hk ⟨yv, ys, rv, R, o5, o6, o7, o8, o9, o10, rfl, x4, hpw4, hCL4, dy4, hRL4, dr4, rn, en⟩
    rw [List.length_map] at hk
    have hk : k < cs.length := by omega
    have hkw : k < ws.length := by omega
    have P4 := x4.pool
    obtain ⟨vx, gv, dvx⟩ := dcv.getD (i := k) (d := cs[k].d) (by rw [List.getElem?_map, List.getElem?_eq_getElem hk]; rfl)
    have e0 : cs[k]? = some cs[k] := List.getElem?_eq_getElem hk
    have ew0 : ws[k]? = some ws[k] := List.getElem?_eq_getElem hkw
    have yok := L0.ck.ok _ (List.getElem_mem hk)
    generalize cs[k] = x at *
    have har := yok.ar
    obtain ⟨a, b, rfl, hs, hb⟩ := Con.get4 (dvx.ext P0 x4)
    have lry : ys.length = k := by have := congrArg List.length en; rw [List.length_map, List.length_take] at this; omega
    have lR : R.length = k := by have := rn.l1; rw [List.length_take] at this; omega
    have lyv : yv.length = ys.length := by rw [dy4.lenD, List.length_map]
    have lrv : rv.length = R.length := by rw [dr4.lenD, List.length_map]
    -- the row, an order, parameters
    refine ⟨_, rfl, p, _, rfl, gg "rows" _ x4 e1, _, rfl, pr, cv, _, .ref a, rfl, rfl, x4.seqT P0 hcv, by rw [Int.zero_add]; exact atI_nat gv, ?_⟩
    refine ⟨_, rfl, vTx rfl hs (atI_nat (j := 1) rfl) ⟨l, c, x.ar, rfl, P4, by omega, fun H5 O os x5 hO0 hO pmO => ?_⟩⟩
    have hs5 := x5.seqT P4 hs
    have nO := P4.ne hO0
    refine ⟨_, rfl, vTx rfl hs5 (atI_nat (j := 1) rfl) ⟨l, c, x.ar, rfl, x5.pool, by omega, fun H6 pp ps x6 hpp0 hpp lps ndp wps => ?_⟩⟩
    have x46 := x5.trans x6
    have npp := x5.pool.ne hpp0
    have hO6 := x6.keep _ _ nO.1 hO
    have hs6 := x46.seqT P4 hs
    have hb6 := x46.seqT P4 hb
    have lo : os.length = x.ar := by rw [pmO.length_eq, List.length_range]
    -- the strict places
    refine vTx rfl hs6 (atI_nat (j := 3) rfl) ⟨b, rfl, ⟨_, hb6⟩, fun D hD => ?_⟩
    have nD := x6.pool.ne hD
    refine lc_it (walk_tup (K := K) (xs := x.pl.map V.int)) (fun i H' => ∃ ns' : List Int, Ext l c H6 H' ∧ H' D = some (.lst (ns'.map V.int)) ∧ ns'.length = i) ⟨[], (Ext.refl x6.pool).new x6.pool hD, upd_same, rfl⟩ (fun i H' _ h => by obtain ⟨_, y, _⟩ := h; exact y.seqT x6.pool hb6) ?_ ?_
    · rintro i z H7 H7' hi ⟨ns', x7, hD7, ln⟩ ⟨rfl, gx⟩
      rw [List.length_map] at hi
      rw [List.getElem?_map, List.getElem?_eq_getElem hi] at gx
      cases gx
      have hq := yok.pl.2.1 _ (List.getElem_mem hi)
      have lpl := yok.pl.2.2
      generalize x.pl[i] = q0 at *
      obtain ⟨qn, rfl⟩ : ∃ qn : Nat, q0 = qn := ⟨q0.toNat, by omega⟩
      have mq : qn ∈ os := pmO.mem_iff.mpr (List.mem_range.mpr (by omega))
      obtain ⟨j, gj, nj⟩ := first_at mq
      have hO7 := x7.keep _ _ nO.1 hO6
      refine ⟨rfl, yes_ ⟨_, rfl, .inl ⟨rfl, _, SqL.of hO7⟩, _, rfl, O, _, _, j, .int (qn : Int), rfl, rfl, SqL.of hO7, rfl, ?_, by rw [List.getElem?_map, gj]; rfl, ?_, ?_, ?_⟩⟩
      · rw [List.all_map]
        exact List.all_eq_true.mpr fun _ _ => rfl
      · show ((qn : Int) == (qn : Int)) = true
        exact beq_self_eq_true _
      · intro m z' hm hz
        rw [List.getElem?_map] at hz
        cases em : os[m]? with
        | none => rw [em] at hz; cases hz
        | some o2 =>
          rw [em] at hz
          cases hz
          have := nj m o2 hm em
          show ((o2 : Int) == (qn : Int)) = false
          exact beq_eq_false_iff_ne.mpr fun z => this (by omega)
      · exact ⟨_, hD7, smallL (by rw [List.length_map]; omega), ns' ++ [(j : Int)], x7.upd x6.pool hD, by rw [upd_same, List.map_append]; rfl, by rw [List.length_append, ln]; rfl⟩
    rintro H7 ⟨ns', x7, hD7, ln⟩
    refine ⟨D, _, rfl, .inl ⟨SqL.of hD7, fun pt hpt => ?_⟩⟩
    have x8 := (Ext.refl x7.pool).new (o := .tup (ns'.map V.int)) x7.pool hpt
    have hpt8 : SqT K (upd H7 pt (.tup (ns'.map V.int))) pt (ns'.map V.int) := SqT.of upd_same
    generalize upd H7 pt (HO.tup (ns'.map V.int)) = H8 at *
    have x48 := (x46.trans x7).trans x8
    have hs8 := x48.seqT P4 hs
    have hCL8 := x48.keep _ _ nCL.1 hCL4
    have hRL8 := x48.keep _ _ nRL.1 hRL4
    have hpw8 := x48.keep _ _ npw.1 hpw4
    have hO8 := (x7.trans x8).keep _ _ nO.1 hO6
    have hpp8 := (x7.trans x8).keep _ _ npp.1 hpp
    have nOC : O ≠ CL := (ne_of_none hCL4 hO0).symm
    have npC : pp ≠ CL := (ne_of_none (x5.keep _ _ nCL.1 hCL4) hpp0).symm
    have gw : atI (ws.map V.str) (0 + (k : Int)) = some (.str ws[k]) := by rw [Int.zero_add]; exact atI_nat (by rw [List.getElem?_map, ew0]; rfl)
    refine ⟨_, rfl, .inl ⟨rfl, _, SqL.of hCL8⟩, _, rfl, _, rfl, pw, _, _, _, rfl, rfl, SqL.of hpw8, gw, vTx rfl hs8 (atI_nat (j := 1) rfl) (vTx rfl hs8 (atI_nat (j := 2) rfl) ⟨_, rfl, small (by show 4 ≤ _; decide), fun pc hpc => ?_⟩)⟩
    have x89 := (Ext.refl x8.pool).new (o := .tup [.str ws[k], .int (x.ar : Nat), .str x.kd, .ref pt]) x8.pool hpc
    have dy9 := (dy4.ext P4 x48).ext x8.pool x89
    have dn9 : Dt K (upd H8 pc (.tup [.str ws[k], .int (x.ar : Nat), .str x.kd, .ref pt])) (.ref pc) (Con.mk ws[k] x.ar x.kd ns').d :=
      .tup (SqT.of upd_same) (.cons (.str _) (.cons (.int _) (.cons (.str _) (.cons (.tup (x89.seqT x8.pool hpt8) (DtAll.ints ns')) .nil))))
    have dr9 := (dr4.ext P4 x48).ext x8.pool x89
    have hs9 := x89.seqT x8.pool hs8
    have hCL9 := x89.keep _ _ nCL.1 hCL8
    have hRL9 := x89.keep _ _ nRL.1 hRL8
    have hpw9 := x89.keep _ _ npw.1 hpw8
    have hO9 := x89.keep _ _ nO.1 hO8
    have hpp9 := x89.keep _ _ npp.1 hpp8
    have x49 := x48.trans x89
    generalize upd H8 pc (HO.tup [.str ws[k], .int (x.ar : Nat), .str x.kd, .ref pt]) = H9 at *
    refine ⟨CL, yv, _, rfl, rfl, hCL9, smallL (by omega), ?_⟩
    have xA : Ext l c H (upd H9 CL (.lst (yv ++ [.ref pc]))) := (x4.trans x49).upd P0 fCL
    have dyA : DtAll K (upd H9 CL (.lst (yv ++ [.ref pc]))) (yv ++ [.ref pc]) ((ys ++ [Con.mk ws[k] x.ar x.kd ns']).map Con.d) := by
      rw [List.map_append]
      exact (dy9.append (.cons dn9 .nil)).upd hCL9
    have drA : DtAll K (upd H9 CL (.lst (yv ++ [.ref pc]))) rv (R.map Rw.d) := dr9.upd hCL9
    have hsA : SqT K (upd H9 CL (.lst (yv ++ [.ref pc]))) a _ := seqT_upd hs9 hCL9
    have hCLA : (upd H9 CL (.lst (yv ++ [.ref pc]))) CL = some (.lst (yv ++ [.ref pc])) := upd_same
    have hRLA : (upd H9 CL (.lst (yv ++ [.ref pc]))) RL = some (.lst rv) := by rw [upd_ne nCR.symm]; exact hRL9
    have hpwA : (upd H9 CL (.lst (yv ++ [.ref pc]))) pw = some (.lst (ws.map V.str)) := by rw [upd_ne nwC]; exact hpw9
    have hOA : (upd H9 CL (.lst (yv ++ [.ref pc]))) O = some (.lst (os.map fun (o : Nat) => V.int (o : Int))) := by rw [upd_ne nOC]; exact hO9
    have hppA : (upd H9 CL (.lst (yv ++ [.ref pc]))) pp = some (.lst (ps.map V.str)) := by rw [upd_ne npC]; exact hpp9
    generalize upd H9 CL (HO.lst (yv ++ [.ref pc])) = HA at *
    have PA := xA.pool
    -- the template
    refine ⟨_, rfl, _, rfl, pw, _, _, _, rfl, rfl, SqL.of hpwA, gw, _, rfl, O, rfl, ⟨_, SqL.of hOA⟩, fun D2 hD2 => ?_⟩
    have nD2 := PA.ne hD2
    refine lc_it (walk_list (K := K) (xs := os.map fun (o : Nat) => V.int (o : Int))) (fun i H' => ∃ v2 : List V, Ext l c HA H' ∧ H' D2 = some (.lst v2) ∧ v2.length = i ∧ DtAll K H' v2 (((os.take i).map (vAt ps)).map Tm.d)) ⟨[], (Ext.refl PA).new PA hD2, upd_same, rfl, by rw [List.take_zero]; exact .nil⟩ (fun i H' _ h => by obtain ⟨_, y, _⟩ := h; exact SqL.of (y.keep _ _ nO.1 hOA)) ?_ ?_
    · rintro i z HB HB' hi ⟨v2, xB, hDB, ln2, dB⟩ ⟨rfl, gx⟩
      rw [List.getElem?_map] at gx
      cases em : os[i]? with
      | none => rw [em] at gx; cases gx
      | some o2 =>
      rw [em] at gx
      cases gx
      have ho2 : o2 < x.ar := List.mem_range.mp (pmO.mem_iff.mp (List.mem_of_getElem? em))
      have hps : o2 < ps.length := by omega
      have hlt := (List.getElem?_eq_some_iff.mp em).1
      refine ⟨rfl, yes_ ⟨_, rfl, _, rfl, pp, _, _, .str ps[o2], rfl, rfl, SqL.of (xB.keep _ _ npp.1 hppA), atI_nat (by rw [List.getElem?_map, List.getElem?_eq_getElem hps]; rfl), small (by show 2 ≤ _; decide), fun u hu => ?_⟩⟩
      have xu := (Ext.refl xB.pool).new (o := .tup [.str "meta", .str ps[o2]]) xB.pool hu
      have hDu := xu.keep _ _ nD2.1 hDB
      refine ⟨v2, hDu, smallL (by omega), v2 ++ [.ref u], (xB.trans xu).upd PA hD2, upd_same, by rw [List.length_append, ln2]; rfl, ?_⟩
      rw [take_snoc em, List.map_append, List.map_append]
      refine ((dB.ext xB.pool xu).append (.cons ?_ .nil)).upd hDu
      unfold vAt
      rw [List.getElem?_eq_getElem hps]
      exact dt_var hu
    rintro HB ⟨v2, xB, hDB, ln2, dB⟩
    rw [List.length_map, List.take_length] at dB
    refine ⟨D2, _, rfl, .inl ⟨SqL.of hDB, fun p2 hp2 => ⟨three _ _ _, fun tp htp => ?_⟩⟩⟩
    have xC := ((Ext.refl xB.pool).new (o := .tup v2) xB.pool hp2)
    have xC2 := xC.new (o := .tup [.str "node", .str ws[k], .ref p2]) xB.pool htp
    have dT : Dt K (upd (upd HB p2 (.tup v2)) tp (.tup [.str "node", .str ws[k], .ref p2])) (.ref tp) (Tm.node ws[k] (os.map (vAt ps))).d := by
      unfold Tm.d
      rw [Tm.ds_map]
      exact Dt.mk3 htp (.str _) (.str _) (.tup (SqT.of upd_same) (dB.ext xB.pool xC))
    have xAC := xB.trans xC2
    generalize upd (upd HB p2 (HO.tup v2)) tp (HO.tup [.str "node", .str ws[k], .ref p2]) = HC at *
    have hsC := xAC.seqT PA hsA
    have hRLC := xAC.keep _ _ nRL.1 hRLA
    have hppC := xAC.keep _ _ npp.1 hppA
    refine ⟨_, rfl, .inl ⟨rfl, _, SqL.of hRLC⟩, vTx rfl hsC (atI_nat (j := 0) rfl) ⟨_, rfl, pp, _, rfl, .inl ⟨SqL.of hppC, fun pq hpq => ⟨_, rfl, three _ _ _, fun pw2 hpw2 => ?_⟩⟩⟩⟩
    have xD := (Ext.refl xAC.pool).new (o := .tup (ps.map V.str)) xAC.pool hpq
    have xD2 := xD.new (o := .tup [.str x.nm, .ref pq, .ref tp]) xAC.pool hpw2
    have dW : Dt K (upd (upd HC pq (.tup (ps.map V.str))) pw2 (.tup [.str x.nm, .ref pq, .ref tp])) (.ref pw2) (Rw.mk x.nm ps (.node ws[k] (os.map (vAt ps)))).d :=
      Dt.mk3 hpw2 (.str _) (.tup (SqT.of upd_same) (DtAll.strs ps)) (dT.ext xAC.pool xD)
    have xAD := xAC.trans xD2
    generalize upd (upd HC pq (HO.tup (ps.map V.str))) pw2 (HO.tup [.str x.nm, .ref pq, .ref tp]) = HD at *
    have hRLD := xAD.keep _ _ nRL.1 hRLA
    refine ⟨RL, rv, _, rfl, rfl, hRLD, smallL (by omega), yv ++ [.ref pc], ys ++ [Con.mk ws[k] x.ar x.kd ns'], rv ++ [.ref pw2], R ++ [Rw.mk x.nm ps (.node ws[k] (os.map (vAt ps)))], _, _, _, _, _, _, rfl, (xA.trans xAD).upd P0 fRL, ?_, ?_, (dyA.ext PA xAD).upd hRLD, upd_same, ?_, rn.snoc e0 ⟨⟨rfl, lps, ndp, ⟨os, pmO, rfl⟩, fun w hw => (wps w hw).1, (wws _ (List.getElem_mem hkw)).1⟩, rfl, rfl⟩, by rw [List.map_append, en, take_snoc ew0]; rfl⟩
    · rw [upd_ne nwR]; exact xAD.keep _ _ npw.1 hpwA
    · rw [upd_ne nCR]; exact xAD.keep _ _ nCL.1 hCLA
    · rw [List.map_append]
      exact ((drA.ext PA xAD).append (.cons dW .nil)).upd hRLD
  · rintro σ H4 ⟨yv, ys, rv, R, o5, o6, o7, o8, o9, o10, rfl, x4, hpw4, hCL4, dy4, hRL4, dr4, rn, en⟩
    have ew : (((ws.map V.str).length : Nat) : Int).toNat = cs.length := by rw [List.length_map]; omega
    rw [ew] at rn en
    rw [List.take_length] at rn
    rw [show cs.length = ws.length by omega, List.take_length] at en
    have A := rn.a
    have rp := A.rwp L0.ck
    have P4 := x4.pool
    have lrv : rv.length = R.length := by rw [dr4.lenD, List.length_map]
    have lyv : yv.length = ys.length := by rw [dy4.lenD, List.length_map]
    have lR := rn.l1
    have lY := rn.l2
    obtain ⟨pu2, ru, epu, hru, dru2⟩ := Dt.tn dru
    cases epu
    have lru : ru.length = rs.length := by rw [dru2.lenD, List.length_map]
    have lrs := L0.rl
    obtain ⟨ms, _, _, _, okr⟩ := L0.ms
    have lns : ns.length ≤ 25 := by have := L0.nl.2; omega
    refine ⟨Nat.zero_le _, fun UL hUL => ?_⟩
    have x5 := x4.new (o := .lst []) P0 hUL
    have z5 := (Ext.refl P4).new (o := .lst []) P4 hUL
    have fUL : H UL = none := x4.free P0 hUL
    have nUL := P0.ne fUL
    have nCU : CL ≠ UL := ne_of_none hCL4 hUL
    have nRU : RL ≠ UL := ne_of_none hRL4 hUL
    have hCL5 := z5.keep _ _ nCL.1 hCL4
    have hRL5 := z5.keep _ _ nRL.1 hRL4
    have dy5 := dy4.ext P4 z5
    have dr5 := dr4.ext P4 z5
    have hUL5 : (upd H4 UL (.lst [])) UL = some (.lst []) := upd_same
    generalize upd H4 UL (HO.lst []) = H5 at *
    refine ⟨_, rfl, p, _, rfl, gg "rules" _ x5 e3, pu, rfl, ⟨_, x5.seqT P0 hru⟩, for_it (walk_tup (K := K) (xs := ru)) (fun i σ H' => ∃ (o12 o13 : Option V) (uv : List V) (rd : List PyData), σ = [some (.ref l), some (.ref p), some (.ref pw), some (.ref CL), some (.ref RL), o5, o6, o7, o8, o9, o10, some (.ref UL), o12, o13, none] ∧ Ext l c H H' ∧ H' CL = some (.lst yv) ∧ DtAll K H' yv (ys.map Con.d) ∧ H' RL = some (.lst rv) ∧ DtAll K H' rv (R.map Rw.d) ∧ H' UL = some (.lst uv) ∧ DtAll K H' uv rd ∧ rd.length = i)
      ⟨_, _, [], [], rfl, x5, hCL5, dy5, hRL5, dr5, hUL5, .nil, rfl⟩ (fun i σ H' _ h => ?_) ?_ ?_⟩
    · obtain ⟨_, _, _, _, _, y, _⟩ := h
      exact y.seqT P0 hru
    · rintro i z σ H6 H6' hi ⟨o12, o13, uv, rd, rfl, x6, hCL6, dy6, hRL6, dr6, hUL6, du6, lrd⟩ ⟨rfl, gx⟩
      obtain ⟨dd, gd, dx⟩ := dru2.getX gx
      rw [List.getElem?_map] at gd
      cases e0 : rs[i]? with
      | none => rw [e0] at gd; cases gd
      | some r =>
      rw [e0] at gd
      cases gd
      have ro := okr r (List.mem_of_getElem? e0)
      obtain ⟨tp, tf, ta⟩ := Rl.tr L0.ck A lns ro
      have hht := ro.ht
      have hpt := ro.pat.ht
      obtain ⟨a5, y2, y3, y4, y5, rfl, hs5, d2, d3, d4, d5⟩ := Rl.get5 (dx.ext P0 x6)
      have RV6 : RvR K H6' (.ref RL) R := ⟨⟨RL, rv, rfl, .inl hRL6, dr6⟩⟩
      have luv : uv.length = rd.length := by rw [du6.lenD]
      refine ⟨_, rfl, vTx rfl hs5 (atI_nat (j := 1) rfl) ⟨.ref RL, y2, R, rfl, RV6, rp, .inl ⟨r.pat, by omega, tp, d2, fun H7 v7 s7 dv7 => ?_⟩⟩⟩
      have hs7 := Same.seqT s7 hs5
      refine ⟨_, rfl, .inl ⟨rfl, _, SqL.of (s7 _ _ hUL6)⟩, vTx rfl hs7 (atI_nat (j := 0) rfl) ⟨_, rfl, vTx rfl hs7 (atI_nat (j := 2) rfl) ⟨_, rfl, vTx rfl hs7 (atI_nat (j := 3) rfl) ?_⟩⟩⟩
      have act : ∀ (Q' : VK) (E' : XK), (∀ (H8 : Hp) (v : V) (d : PyData), Same H7 H8 → Dt K H8 v d → Q' v H8) → spTrl K 20 [.ref RL, y4] H7 Q' E' := fun Q' E' qq => by
        refine ⟨.ref RL, y4, R, rfl, RV6.same s7, rp, ?_⟩
        cases ea : r.act with
        | none =>
          rw [ea] at d4
          have d4 : Dt K H6' y4 .none := d4
          have : y4 = .non := by cases d4; rfl
          subst this
          exact .inr (.inl ⟨.inr (.inr rfl), by decide, qq H7 .non .none (Same.refl _) .non⟩)
        | some a =>
          rw [ea] at d4
          obtain ⟨g, its, st, ed⟩ := ta a ea
          have d4 : Dt K H6' y4 a.d := d4
          rw [ed] at d4
          exact .inr (.inr ⟨g, its, by decide, st, d4.same s7, fun H8 v s8 dv => qq H8 v _ s8 dv⟩)
      refine act _ (fun _ _ _ => False) fun H8 v8 d8 s8 dv8 => ?_
      have hs8 := Same.seqT s8 hs7
      refine ⟨_, rfl, vTx rfl hs8 (atI_nat (j := 4) rfl) ⟨.ref RL, y5, R, rfl, (RV6.same s7).same s8, rp, .inl ⟨r.frm, by omega, tf, (d5.same s7).same s8, fun H9 v9 s9 dv9 => ⟨small (by show 5 ≤ _; decide), fun u hu => ?_⟩⟩⟩⟩
      have s69 := (s7.trans s8).trans s9
      have sU : Same H6' (upd H9 u (.tup [.str r.nm, v7, y3, v8, v9])) := s69.trans (same_new hu)
      have du : Dt K (upd H9 u (.tup [.str r.nm, v7, y3, v8, v9])) (.ref u) (.tuple [.str r.nm, (r.pat.trans R).d, .tuple (r.ds.map Cd.d), d8, (r.frm.trans R).d]) :=
        .tup (SqT.of upd_same) (.cons (.str _) (.cons ((dv7.same (s8.trans s9)).new hu) (.cons (d3.same sU) (.cons ((dv8.same s9).new hu) (.cons (dv9.new hu) .nil)))))
      generalize upd H9 u (HO.tup [.str r.nm, v7, y3, v8, v9]) = HU at *
      have hULU := sU _ _ hUL6
      refine ⟨UL, uv, _, rfl, rfl, hULU, smallL (by omega), _, _, uv ++ [.ref u], rd ++ [_], rfl, (x6.same sU).upd P0 fUL, ?_, (dy6.same sU).upd hULU, ?_, (dr6.same sU).upd hULU, upd_same, ((du6.same sU).append (.cons du .nil)).upd hULU, by rw [List.length_append, lrd]; rfl⟩
      · rw [upd_ne nCU]; exact sU _ _ hCL6
      · rw [upd_ne nRU]; exact sU _ _ hRL6
    · rintro σ H6 ⟨o12, o13, uv, rd, rfl, x6, hCL6, dy6, hRL6, dr6, hUL6, du6, lrd⟩
      have nd : (ys.map Con.nm).Nodup := by rw [en]; exact ndw
      refine ⟨_, rfl, _, rfl, _, rfl, p, _, rfl, gg "names" _ x6 e4, CL, UL, an, yv, uv, ys, rd, rfl, hCL6, dy6, hUL6, du6, by omega, by omega, nd, fun H7 p7 s7 hp7 LG => ?_⟩
      refine ⟨_, rfl, RL, rv, rfl, .inl ⟨SqL.of (s7 _ _ hRL6), fun tt htt => ⟨small (by show 2 ≤ _; decide), fun tr htr => ?_⟩⟩⟩
      have s9 : Same H7 (upd (upd H7 tt (.tup rv)) tr (.tup [.ref p7, .ref tt])) := (same_new htt).trans (same_new htr)
      have x7 := x6.same s7
      refine q _ tr p7 (.ref tt) ys R rd (x7.same s9) (SqT.of upd_same) (LG.ext x7.pool (Same.keepL s9 x7.pool)) ?_ rn nd (by omega)
      exact (Dt.tup (SqT.of upd_same) ((dr6.same s7).same (same_new htt))).same (same_new htr)
end
end PK
set_option maxHeartbeats 0
namespace PK
open PySem L2
/-! a longer way -/
theorem depth_le : ∀ {n : Nat} {ds : List PyData}, (∀ d ∈ ds, d.depth ≤ n) → PyData.depthAll ds ≤ n
  | n, [], _ => by unfold PyData.depthAll; exact Nat.zero_le _
  | n, d :: ds, h => by
    unfold PyData.depthAll
    exact Nat.max_le.mpr ⟨h d List.mem_cons_self, depth_le fun x hx => h x (List.mem_cons_of_mem _ hx)⟩
theorem pln_list : ∀ {ds : List PyData}, (∀ d ∈ ds, pln d = true) → plnAll ds = true
  | [], _ => rfl
  | d :: ds, h => by
    unfold plnAll
    rw [h d List.mem_cons_self, pln_list fun x hx => h x (List.mem_cons_of_mem _ hx)]
    rfl
theorem RnOk.pln {x : Con} {r : Rw} {new : Str} (o : RnOk x r new) (wx : Wd x.nm) : PK.pln r.d = true ∧ r.d.depth ≤ 190 := by
  obtain ⟨os, pm, e⟩ := o.t
  have str : ∀ {s : Str}, Wd s → PK.pln (.str s) = true := fun {s} h => by
    unfold PK.pln
    exact h.sok
  have tup : ∀ {ds : List PyData}, (∀ d ∈ ds, PK.pln d = true) → PK.pln (.tuple ds) = true := fun {ds} h => by
    unfold PK.pln
    exact pln_list h
  have dtup : ∀ {ds : List PyData} {n : Nat}, (∀ d ∈ ds, d.depth ≤ n) → (PyData.tuple ds).depth ≤ n + 1 := fun {ds n} h => by
    unfold PyData.depth
    exact Nat.succ_le_succ (depth_le h)
  have hnode : SOk ("node" : Str) := by decide +kernel
  have dstr : ∀ s : Str, (PyData.str s).depth ≤ 0 := fun s => by unfold PyData.depth; exact Nat.le_refl _
  have leaf : ∀ k ∈ os.map (vAt r.ps), PK.pln k.d = true ∧ k.d.depth ≤ 1 := fun k hk => by
    obtain ⟨q, _, rfl⟩ := List.mem_map.mp hk
    unfold vAt
    split
    · rename_i w hw
      have e2 : (Tm.var w).d = .tuple [.str "meta", .str w] := by unfold Tm.d; rfl
      rw [e2]
      exact ⟨pln2 (sk _ (by decide +kernel)) (o.wp w (List.mem_of_getElem? hw)).sok, dtup fun d hd => by rcases List.mem_cons.mp hd with rfl | hd; exact dstr _; rw [List.mem_singleton.mp hd]; exact dstr _⟩
    · have e2 : (Tm.int 0).d = .tuple [.str "int", .int 0] := by unfold Tm.d; rfl
      rw [e2]
      exact ⟨plnI (sk _ (by decide +kernel)), by decide⟩
  have ed : r.t.d = .tuple [.str "node", .str new, .tuple ((os.map (vAt r.ps)).map Tm.d)] := by rw [e]; unfold Tm.d; rw [Tm.ds_map]
  have pk : PK.pln (.tuple ((os.map (vAt r.ps)).map Tm.d)) = true ∧ (PyData.tuple ((os.map (vAt r.ps)).map Tm.d)).depth ≤ 2 := by
    refine ⟨tup fun d hd => ?_, dtup fun d hd => ?_⟩
    · obtain ⟨k, hk, rfl⟩ := List.mem_map.mp hd; exact (leaf k hk).1
    · obtain ⟨k, hk, rfl⟩ := List.mem_map.mp hd; exact (leaf k hk).2
  have pt : PK.pln r.t.d = true ∧ r.t.d.depth ≤ 3 := by
    rw [ed]
    refine ⟨tup fun d hd => ?_, dtup fun d hd => ?_⟩
    · rcases List.mem_cons.mp hd with rfl | hd
      · unfold PK.pln; exact hnode
      rcases List.mem_cons.mp hd with rfl | hd
      · exact str o.wn
      · rw [List.mem_singleton.mp hd]; exact pk.1
    · rcases List.mem_cons.mp hd with rfl | hd
      · exact Nat.le_trans (dstr _) (by decide)
      rcases List.mem_cons.mp hd with rfl | hd
      · exact Nat.le_trans (dstr _) (by decide)
      · rw [List.mem_singleton.mp hd]; exact pk.2
  have pp : PK.pln (.tuple (r.ps.map .str)) = true ∧ (PyData.tuple (r.ps.map .str)).depth ≤ 1 := by
    refine ⟨tup fun d hd => ?_, dtup fun d hd => ?_⟩
    · obtain ⟨w, hw, rfl⟩ := List.mem_map.mp hd; exact str (o.wp w hw)
    · obtain ⟨w, hw, rfl⟩ := List.mem_map.mp hd; exact dstr w
  unfold Rw.d
  refine ⟨tup fun d hd => ?_, Nat.le_trans (dtup (n := 3) fun d hd => ?_) (by decide)⟩
  · rcases List.mem_cons.mp hd with rfl | hd
    · rw [o.nm]; exact str wx
    rcases List.mem_cons.mp hd with rfl | hd
    · exact pp.1
    · rw [List.mem_singleton.mp hd]; exact pt.1
  · rcases List.mem_cons.mp hd with rfl | hd
    · exact Nat.le_trans (dstr _) (by decide)
    rcases List.mem_cons.mp hd with rfl | hd
    · exact Nat.le_trans pp.2 (by decide)
    · rw [List.mem_singleton.mp hd]; exact pt.2
end PK
set_option maxHeartbeats 0
namespace PK
open PySem L2
/-! a longer way -/
theorem RnOk.get {K : PySem.W.Frag} {H : Hp} {v : V} {x : Con} {r : Rw} {new : Str} (o : RnOk x r new) (h : Dt K H v r.d) : ∃ (a : Addr) (vp : V) (b : Addr) (vk : V), v = .ref a ∧ SqT K H a [.str r.nm, vp, .ref b] ∧ SqT K H b [.str "node", .str new, vk] ∧ Dt K H vp (.tuple (r.ps.map .str)) ∧ ∃ os : List Nat, os.Perm (List.range x.ar) ∧ r.t = .node new (os.map (vAt r.ps)) ∧ Dt K H vk (.tuple ((os.map (vAt r.ps)).map Tm.d)) := by
  unfold Rw.d at h
  obtain ⟨a, x1, y1, z1, rfl, hs, h1, h2, h3⟩ := Dt.t3 h
  obtain rfl := h1.s
  obtain ⟨os, pm, e⟩ := o.t
  rw [e] at h3
  unfold Tm.d at h3
  obtain ⟨b, x2, y2, z2, rfl, hs2, k1, k2, k3⟩ := Dt.t3 h3
  obtain rfl := k1.s
  obtain rfl := k2.s
  rw [Tm.ds_map] at k3
  exact ⟨a, y1, b, z2, rfl, hs, hs2, h2, os, pm, e, k3⟩
/-- of one word more there is one that is not there -/
theorem one_more {ws tk : List Str} (nd : ws.Nodup) (h : tk.length < ws.length) : (ws.filter fun w => decide (w ∉ tk)) ≠ [] := fun z => by
  have : ∀ x ∈ ws, x ∈ tk := fun x hx => by
    refine Classical.byContradiction fun no => ?_
    have : x ∈ ws.filter fun w => decide (w ∉ tk) := List.mem_filter.mpr ⟨hx, decide_eq_true no⟩
    rw [z] at this; cases this
  have := nd_le nd this
  omega
def spLong (K : PySem.W.Frag) : Sp := fun vs H Q _ => ∃ (l c ps pt an an2 : Addr) (rv : V) (cs : List Con) (ns : List Str) (rs : List Rl) (ys : List Con) (rd : List PyData) (R : List Rw), vs = [.ref l, .ref ps, .ref pt, rv] ∧ LgP K H l c ps an cs ns rs ∧ LgAt K H pt an2 ys rd ∧ Dt K H rv (.tuple (R.map Rw.d)) ∧ RnR cs R ys ∧ (ys.map Con.nm).Nodup ∧
  ∀ (H' : Hp) (a : Addr) (v1 vr : V) (R' : List Rw), Ext l c H H' → SqT K H' a [v1, vr] → Dt K H' vr (.tuple (R'.map Rw.d)) → RnA cs R' → Q (.ref a) H'
section
variable {P : Program} {w : World} {K : PySem.W.Frag} {mg : Str → Option Value} {base : Heap}
abbrev s_law_longer : Stmt := topS 50
theorem sc_law_longer : FnScope ["pool", "source", "target", "rows", "row", "plain", "chosen", "old", "taken", "name", "rule", "labels", "label", "parts", "moved", "rules", "pattern", "constructors", "word", "place", "part"] ["pool", "source", "target", "rows"] (defScope s_law_longer) := ⟨rfl, rfl, rfl, by decide +kernel, rfl, by decide +kernel, by decide +kernel⟩
-- slots: 0:pool 1:source 2:target(cell) 3:rows 4:row 5:plain 6:chosen 7:old 8:taken(cell) 9:name 10:rule 11:labels(cell) 12:label 13:parts 14:moved(cell) 15:rules 16:pattern 17:constructors 18:word(comp) 19:place(comp) 20:part(comp)
theorem ok_longer {f : Addr} {fd : FuncData} (F : Fun K "_law_longer" "_law_longer" s_law_longer f fd) (T : Txt K mg) (C_law_words : C8.Cal P w K mg base 3 "_law_words" spWords []) (C_law_pick : C8.Cal P w K mg base 3 "_law_pick" (spPickS K) []) (C_law_translate : C8.Cal P w K mg base 30 "_law_translate" (spTrl K 20) []) (C_law_templated : C8.Cal P w K mg base 10 "_law_templated" (spTempl K) []) (C_law_own : C8.Cal P w K mg base 1 "_law_own" (spOwn K) []) : FnOk P w K mg base CX0 31 f fd ["pool", "source", "target", "rows"] (spLong K) := by
  refine F.ok sc_law_longer (fun vs H Q E h => ?_) (fun cdv A outer s H vs Q E hr h => ?_)
  · obtain ⟨_, _, _, _, _, _, _, _, _, _, _, _, _, rfl, _⟩ := h
    rfl
  obtain ⟨l, c, ps, pt, an, an2, rv, cs, ns, rs, ys, rd, R, rfl, LP, LT, dR, rn, ndy, q⟩ := h
  refine ⟨_, (pss_cons (ps_setLc (i := 5) (own := [("row", 4)]) (g := (gName 4)) (by rfl) sc_law_longer.nd rfl rfl (sw_true rfl rfl rfl (by decide +kernel)) (pi_tup (pv 3)) (blkOk_by (N := ["pool", "source", "target", "rows", "row", "plain", "chosen", "old", "taken", "name", "rule", "labels", "label", "parts", "moved", "rules", "pattern", "constructors", "word", "place", "part"]) (sc := defScope s_law_longer) (by decide +kernel)) (fun _ _ _ _ _ => (pg_name (i := 4) sc_law_longer.nd rfl (Or.inl rfl))) (fun _ _ _ _ _ => pts_one (pt_cmpR op_eq (pe_ix (r := rIxT K) ix_tup (pe_dget (hu_of hr) (pe_dget (hu_of hr) (pv 2) pe_str (fun _ _ => rfl)) (pe_ix (r := rIxT K) ix_tup (pe_ix (r := rIxT K) ix_tup (pv 4) pe_int (fun _ _ => rfl)) pe_int (fun _ _ => rfl)) (fun _ _ => rfl)) pe_int (fun _ _ => rfl)) pe_str (nomark _))) (fun _ _ _ _ _ => (pv 4)))
    (pss_cons (ps_set (i := 6) sc_law_longer.nd rfl (Or.inl rfl) (C8.pe_c C_law_pick hr (by decide) rfl (pa_cons (pv 0) (pa_cons (pv 5) pa_nil))))
    (pss_cons (ps_set (i := 7) sc_law_longer.nd rfl (Or.inl rfl) (pe_dget (hu_of hr) (pe_dget (hu_of hr) (pv 2) pe_str (fun _ _ => rfl)) (pe_ix ix_tup (pe_ix ix_tup (pv 6) pe_int (fun _ _ => rfl)) pe_int (fun _ _ => rfl)) (fun _ _ => rfl)))
    (pss_cons (ps_set (i := 8) sc_law_longer.nd rfl (Or.inr rfl) (pe_lc (own := [("row", 4)]) (g := (gName 4)) (tt := tYes) (by rfl) sc_law_longer.nd (pi_tup (pe_dget (hu_of hr) (pv 2) pe_str (fun _ _ => rfl))) (blkOk_by (N := ["pool", "source", "target", "rows", "row", "plain", "chosen", "old", "taken", "name", "rule", "labels", "label", "parts", "moved", "rules", "pattern", "constructors", "word", "place", "part"]) (sc := defScope s_law_longer) (by decide +kernel)) (fun _ _ _ _ _ => (pg_name (i := 4) sc_law_longer.nd rfl (Or.inl rfl))) (fun _ _ _ _ _ => pts_nil) (fun _ _ _ _ _ => (pe_ix (r := rIxT K) ix_tup (pv 4) pe_int (fun _ _ => rfl)))))
    (pss_cons (ps_set (i := 9) sc_law_longer.nd rfl (Or.inl rfl) (pe_ix ix_list (pe_lc (own := [("word", 18)]) (g := (gName 18)) (by rfl) sc_law_longer.nd (pi_list (C8.pe_c C_law_words hr (by decide) rfl (pa_cons (pv 0) (pa_cons (pe_op op_add (pe_callB call_len_seq (by rfl) T.z_len (by decide +kernel) (pa_cons (pv 8) pa_nil)) pe_int) pa_nil)))) (blkOk_by (N := ["pool", "source", "target", "rows", "row", "plain", "chosen", "old", "taken", "name", "rule", "labels", "label", "parts", "moved", "rules", "pattern", "constructors", "word", "place", "part"]) (sc := defScope s_law_longer) (by decide +kernel)) (fun _ _ _ _ _ => (pg_name (i := 18) sc_law_longer.nd rfl (Or.inl rfl))) (fun _ _ _ _ _ => pts_one (pt_cmpR (r := rIn K true) op_notIn_seq (pv 18) (pv 8) rfl)) (fun _ _ _ _ _ => (pv 18))) pe_int (fun _ _ => rfl)))
    (pss_cons (ps_set (i := 11) sc_law_longer.nd rfl (Or.inr rfl) (pe_lc (own := [("rule", 10)]) (g := (gName 10)) (tt := tYes) (by rfl) sc_law_longer.nd (pi_tup (pe_dget (hu_of hr) (pv 1) pe_str (fun _ _ => rfl))) (blkOk_by (N := ["pool", "source", "target", "rows", "row", "plain", "chosen", "old", "taken", "name", "rule", "labels", "label", "parts", "moved", "rules", "pattern", "constructors", "word", "place", "part"]) (sc := defScope s_law_longer) (by decide +kernel)) (fun _ _ _ _ _ => (pg_name (i := 10) sc_law_longer.nd rfl (Or.inl rfl))) (fun _ _ _ _ _ => pts_nil) (fun _ _ _ _ _ => (pe_ix (r := rIxT K) ix_tup (pv 10) pe_int (fun _ _ => rfl)))))
    (pss_cons (ps_set (i := 12) sc_law_longer.nd rfl (Or.inl rfl) (pe_ix ix_list (pe_lc (own := [("word", 18)]) (g := (gName 18)) (by rfl) sc_law_longer.nd (pi_list (C8.pe_c C_law_words hr (by decide) rfl (pa_cons (pv 0) (pa_cons (pe_op op_add (pe_callB call_len_seq (by rfl) T.z_len (by decide +kernel) (pa_cons (pv 11) pa_nil)) pe_int) pa_nil)))) (blkOk_by (N := ["pool", "source", "target", "rows", "row", "plain", "chosen", "old", "taken", "name", "rule", "labels", "label", "parts", "moved", "rules", "pattern", "constructors", "word", "place", "part"]) (sc := defScope s_law_longer) (by decide +kernel)) (fun _ _ _ _ _ => (pg_name (i := 18) sc_law_longer.nd rfl (Or.inl rfl))) (fun _ _ _ _ _ => pts_one (pt_cmpR (r := rIn K true) op_notIn_seq (pv 18) (pv 11) rfl)) (fun _ _ _ _ _ => (pv 18))) pe_int (fun _ _ => rfl)))
    (pss_cons (ps_set (i := 13) sc_law_longer.nd rfl (Or.inl rfl) (pe_callTy call_tuple_of (by rfl) T.z_tuple (by decide +kernel) (pa_cons (pe_lc (own := [("place", 19)]) (g := (gName 19)) (tt := tYes) (by rfl) sc_law_longer.nd (pi_range1 (by rfl) T.z_range (pa_cons (pe_ix ix_tup (pv 7) pe_int (fun _ _ => rfl)) pa_nil)) (blkOk_by (N := ["pool", "source", "target", "rows", "row", "plain", "chosen", "old", "taken", "name", "rule", "labels", "label", "parts", "moved", "rules", "pattern", "constructors", "word", "place", "part"]) (sc := defScope s_law_longer) (by decide +kernel)) (fun _ _ _ _ _ => (pg_name (i := 19) sc_law_longer.nd rfl (Or.inl rfl))) (fun _ _ _ _ _ => pts_nil) (fun _ _ _ _ _ => (pe_tup (pa_cons pe_str (pa_cons (pe_op op_add_str pe_str (pe_callTy call_str_int (by rfl) T.z_str (by decide +kernel) (pa_cons (pv 19) pa_nil))) pa_nil))))) pa_nil)))
    (pss_cons (ps_set (i := 14) sc_law_longer.nd rfl (Or.inr rfl) (pe_lst pa_nil))
    (pss_cons (ps_for PassesOwn.never rfl (pi_tup (pv 3)) (pg_name (i := 4) sc_law_longer.nd rfl (Or.inl rfl)) (pss_cons (ps_if (pt_cmpR (PKE.op_eqN (n := 190) (eqU hr)) (pv 4) (pv 6) (nomark _)) (pss_one (ps_set (i := 4) sc_law_longer.nd rfl (Or.inl rfl) (pe_tup (pa_cons (pe_ix ix_tup (pv 4) pe_int (fun _ _ => rfl)) (pa_cons (pe_ix ix_tup (pv 4) pe_int (fun _ _ => rfl)) (pa_cons (pe_tup (pa_cons pe_str (pa_cons (pv 9) (pa_cons (pe_ix ix_tup (pe_ix ix_tup (pv 4) pe_int (fun _ _ => rfl)) pe_int (fun _ _ => rfl)) pa_nil)))) pa_nil)))))) pss_nil)
    (pss_one (ps_expr (pe_bm PySem.F.plainAttrs_list PySem.F.slot_list_append PySem.F.type_list_append mt_append (pv 14) (pa_cons (pv 4) pa_nil))))))
    (pss_cons (ps_set (i := 15) sc_law_longer.nd rfl (Or.inl rfl) (pe_lst (pa_cons (pe_tup (pa_cons (pv 12) (pa_cons (pe_tup (pa_cons pe_str (pa_cons (pv 9) (pa_cons (pv 13) pa_nil)))) (pa_cons (pe_tup pa_nil) (pa_cons pe_non (pa_cons (pe_tup (pa_cons pe_str (pa_cons (pe_ix ix_tup (pv 7) pe_int (fun _ _ => rfl)) (pa_cons (pv 13) pa_nil)))) pa_nil)))))) pa_nil)))
    (pss_cons (ps_for PassesOwn.never rfl (pi_tup (pe_dget (hu_of hr) (pv 1) pe_str (fun _ _ => rfl))) (pg_name (i := 10) sc_law_longer.nd rfl (Or.inl rfl)) (pss_cons (ps_set (i := 16) sc_law_longer.nd rfl (Or.inl rfl) (C8.pe_c C_law_templated hr (by decide) rfl (pa_cons (pv 3) (pa_cons (pe_ix ix_tup (pe_ix ix_tup (pv 10) pe_int (fun _ _ => rfl)) pe_int (fun _ _ => rfl)) (pa_cons (pe_lc (own := [("part", 20)]) (g := (gName 20)) (tt := tYes) (by rfl) sc_law_longer.nd (pi_tup (pe_ix ix_tup (pe_ix ix_tup (pv 10) pe_int (fun _ _ => rfl)) pe_int (fun _ _ => rfl))) (blkOk_by (N := ["pool", "source", "target", "rows", "row", "plain", "chosen", "old", "taken", "name", "rule", "labels", "label", "parts", "moved", "rules", "pattern", "constructors", "word", "place", "part"]) (sc := defScope s_law_longer) (by decide +kernel)) (fun _ _ _ _ _ => (pg_name (i := 20) sc_law_longer.nd rfl (Or.inl rfl))) (fun _ _ _ _ _ => pts_nil) (fun _ _ _ _ _ => (C8.pe_c C_law_translate hr (by decide) rfl (pa_cons (pv 14) (pa_cons (pv 20) pa_nil))))) pa_nil)))))
    (pss_one (ps_expr (pe_bm PySem.F.plainAttrs_list PySem.F.slot_list_append PySem.F.type_list_append mt_append (pv 15) (pa_cons (pe_tup (pa_cons (pe_ix ix_tup (pv 10) pe_int (fun _ _ => rfl)) (pa_cons (pv 16) (pa_cons (pe_ix ix_tup (pv 10) pe_int (fun _ _ => rfl)) (pa_cons (C8.pe_c C_law_translate hr (by decide) rfl (pa_cons (pv 14) (pa_cons (pe_ix ix_tup (pv 10) pe_int (fun _ _ => rfl)) pa_nil))) (pa_cons (C8.pe_c C_law_translate hr (by decide) rfl (pa_cons (pv 14) (pa_cons (pe_ix ix_tup (pv 10) pe_int (fun _ _ => rfl)) pa_nil))) pa_nil)))))) pa_nil))))))
    (pss_cons (ps_set (i := 17) sc_law_longer.nd rfl (Or.inl rfl) (pe_op op_cat (pe_callTy call_list_of (by rfl) T.z_list (by decide +kernel) (pa_cons (pe_dget (hu_of hr) (pv 2) pe_str (fun _ _ => rfl)) pa_nil)) (pe_lst (pa_cons (pe_tup (pa_cons (pv 9) (pa_cons (pe_ix ix_tup (pv 7) pe_int (fun _ _ => rfl)) (pa_cons (pe_ix ix_tup (pv 7) pe_int (fun _ _ => rfl)) (pa_cons (pe_ix ix_tup (pv 7) pe_int (fun _ _ => rfl)) pa_nil))))) pa_nil))))
    (pss_one (ps_ret (pe_tup (pa_cons (C8.pe_c C_law_own hr (by decide) rfl (pa_cons (pv 17) (pa_cons (pv 15) (pa_cons (pe_dget (hu_of hr) (pv 2) pe_str (fun _ _ => rfl)) pa_nil)))) (pa_cons (pe_callTy call_tuple_of (by rfl) T.z_tuple (by decide +kernel) (pa_cons (pv 14) pa_nil)) pa_nil)))))))))))))))))), ?_⟩
  have three : ∀ x y z : V, [x, y, z].length ≤ sizeLine := fun x y z => small (by show 3 ≤ _; decide)
  have P0 := LP.pool
  have L0 := LP.ok
  have lcs := L0.two.2
  have A0 := rn.a
  have lR := rn.l1
  have lY := rn.l2
  -- what the target tells
  obtain ⟨kvt, kvo, po, ptr, ptu, hpt, t1, t2, t3, t4, dtr, dtu, hpo, gof⟩ := LT.out
  have nd : ∀ {b : Addr} {kv : List (Key × V)}, H b = some (.dK kv) → b ≠ l := fun h z => by
    obtain ⟨_, _, _, _, hl, _⟩ := P0
    rw [z, hl] at h; cases h
  have gt : ∀ {H' : Hp} (k : Str) (v : V), Ext l c H H' → valV kvt (.inr k) = some v → DGet H' pt (.str k) (some v) := fun {H'} k v x e => by
    have z := DGet.k (k := Sum.inr k) (x.keep _ _ (nd hpt) hpt)
    rw [e] at z; exact z
  have go : ∀ {H' : Hp} (y : Con), Ext l c H H' → y ∈ ys → ∃ v, DGet H' po (.str y.nm) (some v) ∧ Dt K H' v y.d := fun {H'} y x hy => by
    obtain ⟨v, e, d⟩ := gof y hy
    have z := DGet.k (k := Sum.inr y.nm) (x.keep _ _ (nd hpo) hpo)
    rw [e] at z; exact ⟨v, z, d.ext P0 x⟩
  obtain ⟨kvs, kvo2, po2, pr, pu, hps, e1, e2, e3, e4, drr, dru, _, _⟩ := LP.at_.out
  have gs : ∀ {H' : Hp} (k : Str) (v : V), Ext l c H H' → valV kvs (.inr k) = some v → DGet H' ps (.str k) (some v) := fun {H'} k v x e => by
    have z := DGet.k (k := Sum.inr k) (x.keep _ _ (nd hps) hps)
    rw [e] at z; exact z
  obtain ⟨ra, rvs, rfl, hra, dra⟩ := Dt.tn dR
  have lrvs : rvs.length = R.length := by rw [dra.lenD, List.length_map]
  have at3 : ∀ {i : Nat} {r : Rw}, R[i]? = some r → ∃ x y, cs[i]? = some x ∧ ys[i]? = some y ∧ Rn3 x r y := fun {i r} h => by
    have hi := (List.getElem?_eq_some_iff.mp h).1
    have h1 : i < cs.length := by omega
    have h2 : i < ys.length := by omega
    exact ⟨cs[i], ys[i], List.getElem?_eq_getElem h1, List.getElem?_eq_getElem h2, rn.one i _ _ _ (List.getElem?_eq_getElem h1) h (List.getElem?_eq_getElem h2)⟩
  -- the plain ones
  refine ⟨_, rfl, ra, rfl, ⟨_, hra⟩, fun D1 hD1 => ?_⟩
  have nD1 := P0.ne hD1
  refine lc_it (walk_tup (K := K) (xs := rvs)) (fun i H' => ∃ (vs : List V) (xs : List Rw), Ext l c H H' ∧ H' D1 = some (.lst vs) ∧ DtAll K H' vs (xs.map Rw.d) ∧ xs.length ≤ i ∧ (∀ r ∈ xs, r ∈ R) ∧ ∀ (j : Nat) (y : Con) (r : Rw), j < i → ys[j]? = some y → R[j]? = some r → y.kd = ("plain" : Str) → r ∈ xs) ⟨[], [], (Ext.refl P0).new P0 hD1, upd_same, .nil, Nat.le_refl _, fun r h => absurd h List.not_mem_nil, fun j y r h => nomatch h⟩ (fun i H' _ h => by obtain ⟨_, _, x, _⟩ := h; exact x.seqT P0 hra) ?_ ?_
  · rintro i z H1 H1' hi ⟨vs, xs, x1, h1, d1, lx, sx, ax⟩ ⟨rfl, gx⟩
    obtain ⟨dd, gd, dx⟩ := dra.getX gx
    rw [List.getElem?_map] at gd
    cases e0 : R[i]? with
    | none => rw [e0] at gd; cases gd
    | some r =>
    rw [e0] at gd
    cases gd
    obtain ⟨x, y, ex, ey, o3⟩ := at3 e0
    have dx1 := dx.ext P0 x1
    obtain ⟨a, vp, b, vk, rfl, hs, hs2, _⟩ := o3.ok.get dx1
    obtain ⟨vy, gy, dy⟩ := go y x1 (List.mem_of_getElem? ey)
    obtain ⟨ac, bc, rfl, hsc, _⟩ := Con.get4 dy
    have lvs : vs.length = xs.length := by rw [d1.lenD, List.length_map]
    refine ⟨rfl, ⟨_, rfl, pt, _, rfl, gt "of" _ x1 t2, vTx rfl hs (atI_nat (j := 2) rfl) ⟨b, _, _, _, rfl, rfl, hs2, atI_nat (j := 1) rfl, po, _, rfl, gy, ac, _, _, _, rfl, rfl, hsc, atI_nat (j := 2) rfl, rfl, _, rfl, ?_⟩⟩⟩
    by_cases ek : y.kd = ("plain" : Str)
    · refine sT ek ⟨_, rfl, vs, h1, smallL (by omega), vs ++ [.ref a], xs ++ [r], x1.upd P0 hD1, upd_same, ?_, by rw [List.length_append]; show _ + 1 ≤ _; omega, fun r2 hr2 => ?_, fun j y2 r2 hj h2 h3 hk => ?_⟩
      · rw [List.map_append]
        exact (d1.append (.cons dx1 .nil)).upd h1
      · rcases List.mem_append.mp hr2 with h | h
        · exact sx r2 h
        · rw [List.mem_singleton.mp h]; exact List.mem_of_getElem? e0
      · by_cases hji : j < i
        · exact List.mem_append.mpr (.inl (ax j y2 r2 hji h2 h3 hk))
        · have : j = i := by omega
          subst this
          rw [e0] at h3; cases h3
          exact List.mem_append.mpr (.inr (List.mem_singleton.mpr rfl))
    · refine sF ek ⟨vs, xs, x1, h1, d1, by omega, sx, fun j y2 r2 hj h2 h3 hk => ?_⟩
      by_cases hji : j < i
      · exact ax j y2 r2 hji h2 h3 hk
      · have : j = i := by omega
        subst this
        rw [ey] at h2; cases h2
        exact absurd hk ek
  rintro H1 ⟨vs1, xs1, x1, h1, d1, lx1, sx1, ax1⟩
  have lvs1 : vs1.length = xs1.length := by rw [d1.lenD, List.length_map]
  have nx1 : xs1 ≠ [] := fun z => by
    obtain ⟨x, hx, kx⟩ := L0.ck.pl
    obtain ⟨j, hj⟩ := List.getElem?_of_mem hx
    have hlt := (List.getElem?_eq_some_iff.mp hj).1
    have h2 : j < R.length := by omega
    have h3 : j < ys.length := by omega
    have o := rn.one j x R[j] ys[j] hj (List.getElem?_eq_getElem h2) (List.getElem?_eq_getElem h3)
    have := ax1 j ys[j] R[j] (by omega) (List.getElem?_eq_getElem h3) (List.getElem?_eq_getElem h2) (by rw [o.kd]; exact kx)
    rw [z] at this; cases this
  -- one of them
  refine ⟨_, rfl, _, rfl, .inl ⟨l, c, D1, vs1, rfl, x1.pool, nD1.1, h1, (fun z => by rw [z] at lvs1; exact nx1 (List.length_eq_zero_iff.mp lvs1.symm)), by omega, fun H2 i2 v6 x2 gx2 => ?_⟩⟩
  obtain ⟨dd, gd, dx6⟩ := (d1.ext x1.pool x2).getX gx2
  rw [List.getElem?_map] at gd
  cases e6 : xs1[i2]? with
  | none => rw [e6] at gd; cases gd
  | some r0 =>
  rw [e6] at gd
  cases gd
  obtain ⟨i0, e0⟩ := List.getElem?_of_mem (sx1 r0 (List.mem_of_getElem? e6))
  obtain ⟨x0, y0, ex0, ey0, o0⟩ := at3 e0
  have hx0 := List.mem_of_getElem? ex0
  have har0 := (L0.ck.ok x0 hx0).ar
  have y2 := x1.trans x2
  obtain ⟨a6, vp6, b6, vk6, rfl, hs6, hs62, _⟩ := o0.ok.get dx6
  obtain ⟨vo, g7, d7⟩ := go y0 y2 (List.mem_of_getElem? ey0)
  have d7' := d7
  obtain ⟨a7, b7, rfl, hs7, hb7⟩ := Con.get4 d7
  refine ⟨_, rfl, pt, _, rfl, gt "of" _ y2 t2, vTx rfl hs6 (atI_nat (j := 2) rfl) ⟨b6, _, _, _, rfl, rfl, hs62, atI_nat (j := 1) rfl, po, _, rfl, g7, ?_⟩⟩
  -- the names that are taken
  obtain ⟨ptr2, tv, eptr, htv, dtv⟩ := Dt.tn dtr
  cases eptr
  have ltv : tv.length = ys.length := by rw [dtv.lenD, List.length_map]
  refine ⟨_, rfl, pt, _, rfl, gt "rows" _ y2 t1, ptr, rfl, ⟨_, y2.seqT P0 htv⟩, fun TK hTK => ?_⟩
  have nTK := y2.pool.ne hTK
  refine lc_it (walk_tup (K := K) (xs := tv)) (fun i H' => Ext l c H2 H' ∧ H' TK = some (.lst (((ys.map Con.nm).take i).map V.str))) ⟨(Ext.refl y2.pool).new y2.pool hTK, by rw [upd_same, List.take_zero]; rfl⟩ (fun i H' _ h => h.1.seqT y2.pool (y2.seqT P0 htv)) ?_ ?_
  · rintro i z HX HX' hi ⟨xX, hX⟩ ⟨rfl, gx⟩
    obtain ⟨dd, gd, dx⟩ := dtv.getX gx
    rw [List.getElem?_map] at gd
    cases e9 : ys[i]? with
    | none => rw [e9] at gd; cases gd
    | some y9 =>
    rw [e9] at gd
    cases gd
    obtain ⟨a9, b9, rfl, hs9, _⟩ := Con.get4 ((dx.ext P0 y2).ext y2.pool xX)
    have l9 : i < (ys.map Con.nm).length := by rw [List.length_map]; exact (List.getElem?_eq_some_iff.mp e9).1
    refine ⟨rfl, yes_ (vTx rfl hs9 (atI_nat (j := 0) rfl) ⟨_, hX, smallL (by rw [List.length_map, List.length_take]; omega), xX.upd y2.pool hTK, ?_⟩)⟩
    rw [upd_same, take_snoc (show (ys.map Con.nm)[i]? = some (Con.nm y9) by rw [List.getElem?_map, e9]; rfl), List.map_append]
    rfl
  rintro H3 ⟨x3, hTK3⟩
  rw [ltv, show ys.length = (ys.map Con.nm).length by rw [List.length_map], List.take_length] at hTK3
  have y3 := y2.trans x3
  have lyn : (ys.map Con.nm).length = ys.length := List.length_map ..
  obtain ⟨tk1, etk1⟩ : ∃ t, t = ys.map Con.nm := ⟨_, rfl⟩
  rw [← etk1] at hTK3 lyn
  -- a new name
  refine ⟨_, rfl, _, rfl, TK, _, rfl, .inl (SqL.of hTK3), _, _, rfl, rfl, l, c, tk1.length + 1, by rw [List.length_map]; simp, y3.pool, by omega, fun HW pw1 ws1 xw1 hpw01 hpw1 lws1 ndw1 wws1 => ⟨pw1, rfl, ⟨_, SqL.of hpw1⟩, fun DW1 hDW1 => ?_⟩⟩
  have npw1 := y3.pool.ne hpw01
  have hLw1 := xw1.keep _ _ nTK.1 hTK3
  refine lc_it (walk_list (K := K) (xs := ws1.map V.str)) (fun i H' => Ext l c HW H' ∧ H' DW1 = some (.lst (((ws1.take i).filter fun w => decide (w ∉ tk1)).map V.str))) ⟨(Ext.refl xw1.pool).new xw1.pool hDW1, by rw [upd_same, List.take_zero]; rfl⟩ (fun i H' _ h => SqL.of (h.1.keep _ _ npw1.1 hpw1)) ?_ ?_
  · rintro i z HX HX' hi ⟨xX, hX⟩ ⟨rfl, gx⟩
    rw [List.getElem?_map] at gx
    cases e9 : ws1[i]? with
    | none => rw [e9] at gx; cases gx
    | some w9 =>
    rw [e9] at gx
    cases gx
    have lz := Nat.le_trans (List.length_filter_le (fun w => decide (w ∉ tk1)) (ws1.take i)) (by rw [List.length_take]; exact Nat.min_le_right i ws1.length)
    refine ⟨rfl, ⟨_, rfl, _, rfl, TK, _, rfl, .inl (SqL.of (xX.keep _ _ nTK.1 hLw1)), rfl, flat_strs _, _, rfl, ?_⟩⟩
    rw [inV_str, take_snoc e9, List.filter_append]
    by_cases mm : w9 ∈ tk1
    · rw [show (if true = true then !decide (w9 ∈ tk1) else decide (w9 ∈ tk1)) = false by simp [mm]]
      exact iteF ⟨xX, by rw [hX]; simp [mm]⟩
    · rw [show (if true = true then !decide (w9 ∈ tk1) else decide (w9 ∈ tk1)) = true by simp [mm]]
      refine iteT ⟨_, rfl, _, hX, smallL (by rw [List.length_map]; omega), xX.upd xw1.pool hDW1, ?_⟩
      rw [upd_same]
      simp [mm]
  rintro HY1 ⟨xy1, hy1⟩
  rw [List.length_map, List.take_length] at hy1
  have ne1 := one_more (tk := tk1) ndw1 (by omega)
  obtain ⟨name, tl1, etl1⟩ : ∃ a b, (ws1.filter fun w => decide (w ∉ tk1)) = a :: b := by
    cases e : ws1.filter fun w => decide (w ∉ tk1) with
    | nil => exact absurd e ne1
    | cons a b => exact ⟨a, b, rfl⟩
  have wname : Wd name ∧ name ∉ tk1 := by
    have : name ∈ ws1.filter fun w => decide (w ∉ tk1) := by rw [etl1]; exact List.mem_cons_self
    have := List.mem_filter.mp this
    exact ⟨(wws1 _ this.1).1, of_decide_eq_true this.2⟩
  rw [etl1] at hy1
  refine ⟨DW1, _, _, _, rfl, rfl, SqL.of hy1, atI_nat (j := 0) rfl, ?_⟩
  have y4 := y3.trans (xw1.trans xy1)
  -- the labels
  obtain ⟨pu2, ru, epu, hru, dru2⟩ := Dt.tn dru
  cases epu
  have lru : ru.length = rs.length := by rw [dru2.lenD, List.length_map]
  have lrs := L0.rl
  refine ⟨_, rfl, ps, _, rfl, gs "rules" _ y4 e3, pu, rfl, ⟨_, y4.seqT P0 hru⟩, fun TL hTL => ?_⟩
  have nTL := y4.pool.ne hTL
  refine lc_it (walk_tup (K := K) (xs := ru)) (fun i H' => Ext l c HY1 H' ∧ H' TL = some (.lst (((rs.map Rl.nm).take i).map V.str))) ⟨(Ext.refl y4.pool).new y4.pool hTL, by rw [upd_same, List.take_zero]; rfl⟩ (fun i H' _ h => h.1.seqT y4.pool (y4.seqT P0 hru)) ?_ ?_
  · rintro i z HX HX' hi ⟨xX, hX⟩ ⟨rfl, gx⟩
    obtain ⟨dd, gd, dx⟩ := dru2.getX gx
    rw [List.getElem?_map] at gd
    cases e9 : rs[i]? with
    | none => rw [e9] at gd; cases gd
    | some y9 =>
    rw [e9] at gd
    cases gd
    obtain ⟨a9, _, _, _, _, rfl, hs9, _⟩ := Rl.get5 ((dx.ext P0 y4).ext y4.pool xX)
    have l9 : i < (rs.map Rl.nm).length := by rw [List.length_map]; exact (List.getElem?_eq_some_iff.mp e9).1
    refine ⟨rfl, yes_ (vTx rfl hs9 (atI_nat (j := 0) rfl) ⟨_, hX, smallL (by rw [List.length_map, List.length_take]; omega), xX.upd y4.pool hTL, ?_⟩)⟩
    rw [upd_same, take_snoc (show (rs.map Rl.nm)[i]? = some (Rl.nm y9) by rw [List.getElem?_map, e9]; rfl), List.map_append]
    rfl
  rintro H5 ⟨x5, hTL5⟩
  rw [lru, show rs.length = (rs.map Rl.nm).length by rw [List.length_map], List.take_length] at hTL5
  have y5 := y4.trans x5
  have lrn : (rs.map Rl.nm).length = rs.length := List.length_map ..
  obtain ⟨tk2, etk2⟩ : ∃ t, t = rs.map Rl.nm := ⟨_, rfl⟩
  rw [← etk2] at hTL5 lrn
  refine ⟨_, rfl, _, rfl, TL, _, rfl, .inl (SqL.of hTL5), _, _, rfl, rfl, l, c, tk2.length + 1, by rw [List.length_map]; simp, y5.pool, by omega, fun HW pw2 ws2 xw2 hpw02 hpw2 lws2 ndw2 wws2 => ⟨pw2, rfl, ⟨_, SqL.of hpw2⟩, fun DW2 hDW2 => ?_⟩⟩
  have npw2 := y5.pool.ne hpw02
  have hLw2 := xw2.keep _ _ nTL.1 hTL5
  refine lc_it (walk_list (K := K) (xs := ws2.map V.str)) (fun i H' => Ext l c HW H' ∧ H' DW2 = some (.lst (((ws2.take i).filter fun w => decide (w ∉ tk2)).map V.str))) ⟨(Ext.refl xw2.pool).new xw2.pool hDW2, by rw [upd_same, List.take_zero]; rfl⟩ (fun i H' _ h => SqL.of (h.1.keep _ _ npw2.1 hpw2)) ?_ ?_
  · rintro i z HX HX' hi ⟨xX, hX⟩ ⟨rfl, gx⟩
    rw [List.getElem?_map] at gx
    cases e9 : ws2[i]? with
    | none => rw [e9] at gx; cases gx
    | some w9 =>
    rw [e9] at gx
    cases gx
    have lz := Nat.le_trans (List.length_filter_le (fun w => decide (w ∉ tk2)) (ws2.take i)) (by rw [List.length_take]; exact Nat.min_le_right i ws2.length)
    refine ⟨rfl, ⟨_, rfl, _, rfl, TL, _, rfl, .inl (SqL.of (xX.keep _ _ nTL.1 hLw2)), rfl, flat_strs _, _, rfl, ?_⟩⟩
    rw [inV_str, take_snoc e9, List.filter_append]
    by_cases mm : w9 ∈ tk2
    · rw [show (if true = true then !decide (w9 ∈ tk2) else decide (w9 ∈ tk2)) = false by simp [mm]]
      exact iteF ⟨xX, by rw [hX]; simp [mm]⟩
    · rw [show (if true = true then !decide (w9 ∈ tk2) else decide (w9 ∈ tk2)) = true by simp [mm]]
      refine iteT ⟨_, rfl, _, hX, smallL (by rw [List.length_map]; omega), xX.upd xw2.pool hDW2, ?_⟩
      rw [upd_same]
      simp [mm]
  rintro HY2 ⟨xy2, hy2⟩
  rw [List.length_map, List.take_length] at hy2
  have ne2 := one_more (tk := tk2) ndw2 (by omega)
  obtain ⟨label, tl2, etl2⟩ : ∃ a b, (ws2.filter fun w => decide (w ∉ tk2)) = a :: b := by
    cases e : ws2.filter fun w => decide (w ∉ tk2) with
    | nil => exact absurd e ne2
    | cons a b => exact ⟨a, b, rfl⟩
  have wlabel : Wd label ∧ label ∉ tk2 := by
    have : label ∈ ws2.filter fun w => decide (w ∉ tk2) := by rw [etl2]; exact List.mem_cons_self
    have := List.mem_filter.mp this
    exact ⟨(wws2 _ this.1).1, of_decide_eq_true this.2⟩
  rw [etl2] at hy2
  refine ⟨DW2, _, _, _, rfl, rfl, SqL.of hy2, atI_nat (j := 0) rfl, ?_⟩
  have y6 := y5.trans (xw2.trans xy2)
  have z26 := x3.trans ((xw1.trans xy1).trans (x5.trans (xw2.trans xy2)))
  have hs76 := z26.seqT y2.pool hs7
  have P6 := y6.pool
  have ea0 : y0.ar = x0.ar := o0.ar
  -- words of its arguments
  refine vTx rfl hs76 (atI_nat (j := 1) rfl) ⟨_, rfl, by omega, by omega, fun DP hDP => ?_⟩
  have nDP := P6.ne hDP
  refine lc_range (lo := 0) (n := ((y0.ar : Nat) : Int).toNat) (fun i H' => ∃ (vs : List V) (ks : List Tm), Ext l c HY2 H' ∧ H' DP = some (.lst vs) ∧ DtAll K H' vs (ks.map Tm.d) ∧ ks.length = i) ⟨[], [], (Ext.refl P6).new P6 hDP, upd_same, .nil, rfl⟩ ?_ ?_
  · rintro i HX hi ⟨vs, ks, xX, hX, dX, lk⟩
    have lvs : vs.length = ks.length := by rw [dX.lenD, List.length_map]
    have lg : (0 + (i : Int)).natAbs.log2 < 1920 := Nat.lt_of_lt_of_le (PySem.Flt.log2_lt_of (k := 5) (by decide) (by show (0 + (i : Int)).natAbs < 32; omega)) (by decide)
    have ll : (("x" : Str).length + (toString (0 + (i : Int)) : Str).length) ≤ sizeLine := by
      rcases (by omega : i = 0 ∨ i = 1 ∨ i = 2) with rfl | rfl | rfl <;> exact small (by decide +kernel)
    refine ⟨rfl, yes_ ⟨_, rfl, _, rfl, lg, _, _, rfl, rfl, ll, small (by show 2 ≤ _; decide), fun u hu => ?_⟩⟩
    have xu := (Ext.refl xX.pool).new (o := .tup [.str "meta", .str (("x" : Str) ++ (toString (0 + (i : Int)) : Str))]) xX.pool hu
    have hXu := xu.keep _ _ nDP.1 hX
    refine ⟨vs, hXu, smallL (by omega), vs ++ [.ref u], ks ++ [.var (("x" : Str) ++ (toString (0 + (i : Int)) : Str))], (xX.trans xu).upd P6 hDP, upd_same, ?_, by rw [List.length_append, lk]; rfl⟩
    rw [List.map_append]
    exact ((dX.ext xX.pool xu).append (.cons (dt_var hu) .nil)).upd hXu
  rintro H7 ⟨vsP, ksP, x7, hDP7, dP7, lkP⟩
  refine ⟨DP, _, rfl, .inl ⟨SqL.of hDP7, fun pp hpp => ?_⟩⟩
  have x8 := (Ext.refl x7.pool).new (o := .tup vsP) x7.pool hpp
  have y8 := y6.trans (x7.trans x8)
  have hpp8 : SqT K (upd H7 pp (.tup vsP)) pp vsP := SqT.of upd_same
  have dP8 := dP7.ext x7.pool x8
  have z28 := z26.trans (x7.trans x8)
  generalize upd H7 pp (HO.tup vsP) = H8 at *
  -- the rows, one of them longer
  refine ⟨Nat.zero_le _, fun ML hML => ?_⟩
  have x9 := y8.new (o := .lst []) P0 hML
  have z9 := (Ext.refl y8.pool).new (o := .lst []) y8.pool hML
  have fML : H ML = none := y8.free P0 hML
  have nML := P0.ne fML
  have z29 := z28.trans z9
  have hpp9 := z9.seqT y8.pool hpp8
  have dP9 := dP8.ext y8.pool z9
  have hML9 : (upd H8 ML (.lst [])) ML = some (.lst []) := upd_same
  have h7M : Same H8 (upd H8 ML (.lst [])) := same_new hML
  generalize upd H8 ML (HO.lst []) = H9 at *
  have P9 := x9.pool
  have pl0 := o0.ok.pln (L0.wd x0.nm (List.mem_map.mpr ⟨x0, hx0, rfl⟩)).1
  refine ⟨_, rfl, ra, rfl, ⟨_, x9.seqT P0 hra⟩, for_it (walk_tup (K := K) (xs := rvs)) (fun i σ H' => ∃ (o4 : Option V) (mv : List V) (R' : List Rw), σ = [some (.ref l), some (.ref ps), some (.ref pt), some (.ref ra), o4, some (.ref D1), some (.ref a6), some (.ref a7), some (.ref TK), some (.str name), none, some (.ref TL), some (.str label), some (.ref pp), some (.ref ML), none, none, none, none, none, none] ∧ Ext l c H H' ∧ (∀ b o, b ≠ l → b ≠ ML → H9 b = some o → H' b = some o) ∧ H' ML = some (.lst mv) ∧ DtAll K H' mv (R'.map Rw.d) ∧ R'.length = i ∧ ∀ (j : Nat) (x : Con) (r : Rw), cs[j]? = some x → R'[j]? = some r → ∃ new, RnOk x r new)
    ⟨_, [], [], rfl, x9, fun _ _ _ _ h => h, hML9, .nil, rfl, fun j x r h h2 => by simp at h2⟩ (fun i σ H' _ h => by obtain ⟨_, _, _, _, x, _⟩ := h; exact x.seqT P0 hra) ?_ ?_⟩
  · rintro i z σ HX HX' hi ⟨o4, mv, R', rfl, xX, kX, hX, dX, lR', okX⟩ ⟨rfl, gx⟩
    obtain ⟨dd, gd, dx⟩ := dra.getX gx
    rw [List.getElem?_map] at gd
    cases e9 : R[i]? with
    | none => rw [e9] at gd; cases gd
    | some r =>
    rw [e9] at gd
    cases gd
    obtain ⟨x, y, ex, ey, o3⟩ := at3 e9
    have hx := List.mem_of_getElem? ex
    have dxX := dx.ext P0 xX
    have lmv : mv.length = R'.length := by rw [dX.lenD, List.length_map]
    have app : ∀ (H' : Hp) (v : V) (r' : Rw), Same HX' H' → Dt K H' v r'.d → (∃ new, RnOk x r' new) → H' ML = some (.lst mv) ∧ ∃ (o4 : Option V) (mv' : List V) (R'' : List Rw), ([some (.ref l), some (.ref ps), some (.ref pt), some (.ref ra), some v, some (.ref D1), some (.ref a6), some (.ref a7), some (.ref TK), some (.str name), none, some (.ref TL), some (.str label), some (.ref pp), some (.ref ML), none, none, none, none, none, none] : L2.St) = [some (.ref l), some (.ref ps), some (.ref pt), some (.ref ra), o4, some (.ref D1), some (.ref a6), some (.ref a7), some (.ref TK), some (.str name), none, some (.ref TL), some (.str label), some (.ref pp), some (.ref ML), none, none, none, none, none, none] ∧ Ext l c H (upd H' ML (.lst (mv ++ [v]))) ∧ (∀ b o, b ≠ l → b ≠ ML → H9 b = some o → (upd H' ML (.lst (mv ++ [v]))) b = some o) ∧ (upd H' ML (.lst (mv ++ [v]))) ML = some (.lst mv') ∧ DtAll K (upd H' ML (.lst (mv ++ [v]))) mv' (R''.map Rw.d) ∧ R''.length = i + 1 ∧ ∀ (j : Nat) (x : Con) (r : Rw), cs[j]? = some x → R''[j]? = some r → ∃ new, RnOk x r new := fun H' v r' s' dv ok' => by
      have hX' := s' _ _ hX
      refine ⟨hX', _, mv ++ [v], R' ++ [r'], rfl, (xX.same s').upd P0 fML, fun b o h1 h2 h => by rw [upd_ne h2]; exact s' _ _ (kX b o h1 h2 h), upd_same, ?_, by rw [List.length_append, lR']; rfl, fun j x2 r2 h1 h2 => ?_⟩
      · rw [List.map_append]
        exact ((dX.same s').append (.cons dv .nil)).upd hX'
      · by_cases hj : j < i
        · rw [List.getElem?_append_left (by omega)] at h2; exact okX j x2 r2 h1 h2
        · have hlt := (List.getElem?_eq_some_iff.mp h2).1
          rw [List.length_append] at hlt
          have hlt : j < R'.length + 1 := hlt
          have : j = i := by omega
          subst this
          rw [List.getElem?_append_right (by omega), lR', Nat.sub_self] at h2
          cases h2
          rw [ex] at h1; cases h1
          exact ok'
    have dx6X : Dt K HX' (.ref a6) r0.d := by
      have d69 := dx6.ext y2.pool z29
      have M9 : ∀ b ∈ [ML], Mut1 H9 b := fun b hb => by rw [List.mem_singleton.mp hb]; exact .inl ⟨_, hML9⟩
      exact ExX.dt (X := [ML]) ⟨fun b o h1 h2 h => kX b o h1 (fun z => h2 (List.mem_singleton.mpr z)) h, xX.pool⟩ P9 M9 d69
    have plr := o3.ok.pln (L0.wd x.nm (List.mem_map.mpr ⟨x, hx, rfl⟩)).1
    refine ⟨_, rfl, _, rfl, r.d, r0.d, dxX.dp _ _, dx6X.dp _ _, pln_lay _ plr.1, pln_lay _ pl0.1, .inr pl0.2, _, rfl, ?_⟩
    cases PyData.eqv r.d r0.d with
    | false =>
      obtain ⟨q1, q2⟩ := app HX' z r (Same.refl _) dxX ⟨_, o3.ok⟩
      exact iteF ⟨_, rfl, .inl ⟨rfl, _, SqL.of q1⟩, _, rfl, ML, mv, _, rfl, rfl, q1, smallL (by omega), q2⟩
    | true =>
      obtain ⟨a, vp, b, vk, rfl, hs, hs2, dvp, os, pm, et, dvk⟩ := o3.ok.get dxX
      refine iteT (vTx rfl hs (atI_nat (j := 0) rfl) (vTx rfl hs (atI_nat (j := 1) rfl) ⟨_, rfl, vTx rfl hs (atI_nat (j := 2) rfl) ⟨b, _, _, _, rfl, rfl, hs2, atI_nat (j := 2) rfl, three _ _ _, fun u1 hu1 => ⟨three _ _ _, fun u2 hu2 => ?_⟩⟩⟩))
      have s1 : Same HX' (upd HX' u1 (.tup [.str "node", .str name, vk])) := same_new hu1
      have s2 := s1.trans (same_new (o := .tup [.str r.nm, vp, .ref u1]) hu2)
      have dn : Dt K (upd (upd HX' u1 (.tup [.str "node", .str name, vk])) u2 (.tup [.str r.nm, vp, .ref u1])) (.ref u2) (Rw.mk r.nm r.ps (.node name (os.map (vAt r.ps)))).d := by
        refine Dt.mk3 hu2 (.str _) (dvp.same s1) ?_
        unfold Tm.d
        rw [Tm.ds_map]
        exact Dt.mk3 hu1 (.str _) (.str _) dvk
      obtain ⟨q1, q2⟩ := app _ (.ref u2) _ s2 dn ⟨name, o3.ok.nm, o3.ok.len, o3.ok.nd, ⟨os, pm, rfl⟩, o3.ok.wp, wname.1⟩
      exact ⟨_, rfl, .inl ⟨rfl, _, SqL.of q1⟩, _, rfl, ML, mv, _, rfl, rfl, q1, smallL (by omega), q2⟩
  rintro σ HA ⟨o4, mv, R', rfl, xA, kA, hMLA, dMA, lR', okA⟩
  have AR : RnA cs R' := ⟨by omega, okA⟩
  have M9 : ∀ b ∈ [ML], Mut1 H9 b := fun b hb => by rw [List.mem_singleton.mp hb]; exact .inl ⟨_, hML9⟩
  have xq : ExX l c [ML] H9 HA := ⟨fun b o h1 h2 h => kA b o h1 (fun z => h2 (List.mem_singleton.mpr z)) h, xA.pool⟩
  have hs7A := xq.seqT P9 M9 (z29.seqT y2.pool hs7)
  have hb7A := xq.seqT P9 M9 (z29.seqT y2.pool hb7)
  have hppA := xq.seqT P9 M9 hpp9
  have dPA := xq.dts P9 M9 dP9
  have PA := xA.pool
  have lmv : mv.length = R'.length := by rw [dMA.lenD, List.length_map]
  have rpR := A0.rwp L0.ck
  have rpR' := AR.rwp L0.ck
  obtain ⟨ms, _, _, _, okr⟩ := L0.ms
  have lns : ns.length ≤ 25 := by have := L0.nl.2; omega
  -- the first rule
  refine ⟨_, rfl, _, rfl, _, rfl, three _ _ _, fun u1 hu1 => ⟨Nat.zero_le _, fun u2 hu2 => ?_⟩⟩
  have w1 : Same HA (upd HA u1 (.tup [.str "node", .str name, .ref pp])) := same_new hu1
  have w2 := w1.trans (same_new (o := .tup []) hu2)
  refine vTx rfl (Same.seqT w2 hs7A) (atI_nat (j := 0) rfl) ⟨_, rfl, three _ _ _, fun u3 hu3 => ⟨small (by show 5 ≤ _; decide), fun u4 hu4 => ⟨small (by show 1 ≤ _; decide), fun UL hUL => ?_⟩⟩⟩
  have dpp : Dt K HA (.ref pp) (.tuple (ksP.map Tm.d)) := .tup hppA dPA
  have dn1 : Dt K (upd HA u1 (.tup [.str "node", .str name, .ref pp])) (.ref u1) (Tm.node name ksP).d := by
    unfold Tm.d
    rw [Tm.ds_map]
    exact Dt.mk3 hu1 (.str _) (.str _) dpp
  have de2 : Dt K (upd (upd HA u1 (.tup [.str "node", .str name, .ref pp])) u2 (.tup [])) (.ref u2) (.tuple []) := .tup (SqT.of upd_same) .nil
  have w12 : Same (upd HA u1 (.tup [.str "node", .str name, .ref pp])) (upd (upd HA u1 (.tup [.str "node", .str name, .ref pp])) u2 (.tup [])) := same_new hu2
  have dn1' := dn1.same w12
  generalize upd (upd HA u1 (HO.tup [.str "node", .str name, .ref pp])) u2 (HO.tup []) = HB1 at *
  have dn3 : Dt K (upd HB1 u3 (.tup [.str "node", .str y0.nm, .ref pp])) (.ref u3) (Tm.node y0.nm ksP).d := by
    unfold Tm.d
    rw [Tm.ds_map]
    exact Dt.mk3 hu3 (.str _) (.str _) (dpp.same w2)
  have w3 : Same HB1 (upd HB1 u3 (.tup [.str "node", .str y0.nm, .ref pp])) := same_new hu3
  generalize upd HB1 u3 (HO.tup [.str "node", .str y0.nm, .ref pp]) = HB2 at *
  have w4 : Same HB2 (upd HB2 u4 (.tup [.str label, .ref u1, .ref u2, .non, .ref u3])) := same_new hu4
  have d4 : Dt K (upd HB2 u4 (.tup [.str label, .ref u1, .ref u2, .non, .ref u3])) (.ref u4) (.tuple [.str label, (Tm.node name ksP).d, .tuple [], .none, (Tm.node y0.nm ksP).d]) :=
    .tup (SqT.of upd_same) (.cons (.str _) (.cons ((dn1'.same w3).same w4) (.cons ((de2.same w3).same w4) (.cons .non (.cons (dn3.same w4) .nil)))))
  generalize upd HB2 u4 (HO.tup [.str label, .ref u1, .ref u2, .non, .ref u3]) = HB3 at *
  have w5 : Same HB3 (upd HB3 UL (.lst [.ref u4])) := same_new hUL
  have wB := ((w2.trans w3).trans w4).trans w5
  have fUL : H UL = none := (xA.same ((w2.trans w3).trans w4)).free P0 hUL
  have nUL := P0.ne fUL
  have xB := xA.same wB
  have d5 := d4.same w5
  have hULB : (upd HB3 UL (.lst [.ref u4])) UL = some (.lst [.ref u4]) := upd_same
  have fULA : HA UL = none := by
    cases e : HA UL with
    | none => rfl
    | some o => rw [((w2.trans w3).trans w4) _ _ e] at hUL; cases hUL
  generalize upd HB3 UL (HO.lst [.ref u4]) = HB at *
  have PB := xB.pool
  have hMLB := wB _ _ hMLA
  have nMU : ML ≠ UL := ne_of_none hMLA fULA
  refine ⟨_, rfl, ps, _, rfl, gs "rules" _ xB e3, pu, rfl, ⟨_, xB.seqT P0 hru⟩, for_it (walk_tup (K := K) (xs := ru)) (fun i σ H' => ∃ (o10 o16 : Option V) (uv : List V) (rd' : List PyData), σ = [some (.ref l), some (.ref ps), some (.ref pt), some (.ref ra), o4, some (.ref D1), some (.ref a6), some (.ref a7), some (.ref TK), some (.str name), o10, some (.ref TL), some (.str label), some (.ref pp), some (.ref ML), some (.ref UL), o16, none, none, none, none] ∧ Ext l c H H' ∧ (∀ b o, b ≠ UL → HB b = some o → H' b = some o) ∧ H' UL = some (.lst uv) ∧ DtAll K H' uv rd' ∧ rd'.length = i + 1)
    ⟨_, _, _, _, rfl, xB, fun _ _ _ h => h, hULB, .cons d5 .nil, rfl⟩ (fun i σ H' _ h => by obtain ⟨_, _, _, _, _, x, _⟩ := h; exact x.seqT P0 hru) ?_ ?_⟩
  · rintro i z σ HX HX' hi ⟨o10, o16, uv, rd', rfl, xX, kX, hX, dX, lX⟩ ⟨rfl, gx⟩
    obtain ⟨dd, gd, dx⟩ := dru2.getX gx
    rw [List.getElem?_map] at gd
    cases e9 : rs[i]? with
    | none => rw [e9] at gd; cases gd
    | some r =>
    rw [e9] at gd
    cases gd
    have ro := okr r (List.mem_of_getElem? e9)
    obtain ⟨tp, tf, ta⟩ := Rl.tr L0.ck AR lns ro
    have hht := ro.ht
    have hpt := ro.pat.ht
    have luv : uv.length = rd'.length := by rw [dX.lenD]
    obtain ⟨a5, q2, q3, q4, q5, rfl, hs5, k2, k3, k4, k5⟩ := Rl.get5 (dx.ext P0 xX)
    obtain ⟨yp, tsp, epat, hyp, _, hlp, _⟩ := ro.pat.nd
    have hMX : HX' ML = some (.lst mv) := kX _ _ nMU hMLB
    have dMX : DtAll K HX' mv (R'.map Rw.d) := by
      have MB : ∀ b ∈ [UL], Mut1 HB b := fun b hb => by rw [List.mem_singleton.mp hb]; exact .inl ⟨_, hULB⟩
      exact ExX.dts (X := [UL]) ⟨fun b o h1 h2 h => kX b o (fun z => h2 (List.mem_singleton.mpr z)) h, xX.pool⟩ PB MB (dMA.same wB)
    have RVX : RvR K HX' (.ref ML) R' := ⟨⟨ML, mv, rfl, .inl hMX, dMX⟩⟩
    have k2' := k2
    rw [epat] at k2
    unfold Tm.d at k2
    obtain ⟨ap, j1, j2, j3, rfl, hsp, m1, m2, m3⟩ := Dt.t3 k2
    obtain rfl := m1.s
    obtain rfl := m2.s
    obtain ⟨bk, kv, rfl, hbk, dkv⟩ := Dt.tn m3
    rw [Tm.ds_map] at dkv
    have lkv : kv.length = tsp.length := by rw [dkv.lenD, List.length_map]
    have har := (L0.ck.ok yp hyp).ar
    obtain ⟨rr, hrr, ern, _, orr⟩ := A0.cov yp hyp
    refine ⟨_, rfl, vTx rfl hs5 (atI_nat (j := 1) rfl) ⟨ap, _, _, _, rfl, rfl, hsp, atI_nat (j := 1) rfl, vTx rfl hs5 (atI_nat (j := 1) rfl) ⟨ap, _, _, _, rfl, rfl, hsp, atI_nat (j := 2) rfl, bk, rfl, ⟨_, hbk⟩, fun D hD => ?_⟩⟩⟩
    refine lc_it (walk_tup (K := K) (xs := kv)) (fun i H' => ∃ vs, Same HX' H' ∧ H' D = some (.lst vs) ∧ vs.length = i ∧ DtAll K H' vs (((tsp.take i).map (Tm.trans R')).map Tm.d)) ⟨[], same_new hD, upd_same, rfl, by rw [List.take_zero]; exact .nil⟩ (fun i H' _ h => by obtain ⟨_, s, _⟩ := h; exact Same.seqT s hbk) ?_ ?_
    · rintro i2 z2 HC HC' hi2 ⟨vs, sC, hC, lC, dC⟩ ⟨rfl, gx2⟩
      obtain ⟨dd2, gd2, dx2⟩ := dkv.getX gx2
      rw [List.getElem?_map] at gd2
      cases e10 : tsp[i2]? with
      | none => rw [e10] at gd2; cases gd2
      | some t2 =>
      rw [e10] at gd2
      cases gd2
      have mt2 : t2 ∈ (Tm.node yp.nm tsp).kids := List.mem_of_getElem? e10
      have ht2 := Tm.ht_kid mt2
      rw [← epat] at mt2 ht2
      refine ⟨rfl, yes_ ⟨_, rfl, _, rfl, .ref ML, z2, R', rfl, RVX.same sC, rpR', .inl ⟨t2, by omega, tp.kid mt2, dx2.same sC, fun HD v sD dv => ?_⟩⟩⟩
      have hD2 := sD _ _ hC
      refine ⟨vs, hD2, smallL (by omega), vs ++ [v], Same.upd (sC.trans sD) hD, upd_same, by rw [List.length_append, lC]; rfl, ?_⟩
      rw [take_snoc e10, List.map_append, List.map_append]
      exact ((dC.same sD).append (.cons dv .nil)).upd hD2
    rintro HC ⟨vs, sC, hC, lC, dC⟩
    rw [lkv, List.take_length] at dC
    refine ⟨.ref ra, D, vs, R, rr, tsp.map (Tm.trans R'), by rw [ern]; rfl, (RvR.tup (dR.ext P0 xX)).same sC, rpR, hrr, hC, dC, by rw [List.length_map, orr.len]; omega, fun HD v7 sD dv7 => ?_⟩
    have s7 := sC.trans sD
    have hs7X := Same.seqT s7 hs5
    refine ⟨_, rfl, .inl ⟨rfl, _, SqL.of (s7 _ _ hX)⟩, vTx rfl hs7X (atI_nat (j := 0) rfl) ⟨_, rfl, vTx rfl hs7X (atI_nat (j := 2) rfl) ⟨_, rfl, vTx rfl hs7X (atI_nat (j := 3) rfl) ?_⟩⟩⟩
    have act : ∀ (Q' : VK) (E' : XK), (∀ (H8 : Hp) (v : V) (d : PyData), Same HD H8 → Dt K H8 v d → Q' v H8) → spTrl K 20 [.ref ML, q4] HD Q' E' := fun Q' E' qq => by
      refine ⟨.ref ML, q4, R', rfl, RVX.same s7, rpR', ?_⟩
      cases ea : r.act with
      | none =>
        rw [ea] at k4
        have k4 : Dt K HX' q4 .none := k4
        have : q4 = .non := by cases k4; rfl
        subst this
        exact .inr (.inl ⟨.inr (.inr rfl), by decide, qq HD .non .none (Same.refl _) .non⟩)
      | some a =>
        rw [ea] at k4
        obtain ⟨g, its, st, ed⟩ := ta a ea
        have k4 : Dt K HX' q4 a.d := k4
        rw [ed] at k4
        exact .inr (.inr ⟨g, its, by decide, st, k4.same s7, fun H8 v s8 dv => qq H8 v _ s8 dv⟩)
    refine act _ (fun _ _ _ => False) fun H8' v8 d8 s8 dv8 => ?_
    have hs8 := Same.seqT s8 hs7X
    refine ⟨_, rfl, vTx rfl hs8 (atI_nat (j := 4) rfl) ⟨.ref ML, q5, R', rfl, (RVX.same s7).same s8, rpR', .inl ⟨r.frm, by omega, tf, (k5.same s7).same s8, fun H9' v9 s9 dv9 => ⟨small (by show 5 ≤ _; decide), fun u hu => ?_⟩⟩⟩⟩
    have s69 := (s7.trans s8).trans s9
    have sU : Same HX' (upd H9' u (.tup [.str r.nm, v7, q3, v8, v9])) := s69.trans (same_new hu)
    have du : Dt K (upd H9' u (.tup [.str r.nm, v7, q3, v8, v9])) (.ref u) (.tuple [.str r.nm, (rr.t.fill (rr.ps.zip (tsp.map (Tm.trans R')))).d, .tuple (r.ds.map Cd.d), d8, (r.frm.trans R').d]) :=
      .tup (SqT.of upd_same) (.cons (.str _) (.cons ((dv7.same (s8.trans s9)).new hu) (.cons (k3.same sU) (.cons ((dv8.same s9).new hu) (.cons (dv9.new hu) .nil)))))
    generalize upd H9' u (HO.tup [.str r.nm, v7, q3, v8, v9]) = HU at *
    have hULU := sU _ _ hX
    exact ⟨UL, uv, _, rfl, rfl, hULU, smallL (by omega), _, _, uv ++ [.ref u], rd' ++ [_], rfl, (xX.same sU).upd P0 fUL, fun b o h1 h => by rw [upd_ne h1]; exact sU _ _ (kX b o h1 h), upd_same, ((dX.same sU).append (.cons du .nil)).upd hULU, by rw [List.length_append, lX]; rfl⟩
  rintro σ HX ⟨o10, o16, uv, rd', rfl, xX, kX, hX, dX, lX⟩
  rw [lru] at lX
  have MB : ∀ b ∈ [UL], Mut1 HB b := fun b hb => by rw [List.mem_singleton.mp hb]; exact .inl ⟨_, hULB⟩
  have xu : ExX l c [UL] HB HX := ⟨fun b o h1 h2 h => kX b o (fun z => h2 (List.mem_singleton.mpr z)) h, xX.pool⟩
  have hMX : HX ML = some (.lst mv) := kX _ _ nMU hMLB
  have dMX : DtAll K HX mv (R'.map Rw.d) := xu.dts PB MB (dMA.same wB)
  have hs7X := xu.seqT PB MB (Same.seqT wB hs7A)
  have hb7X := xu.seqT PB MB (Same.seqT wB hb7A)
  have luv : uv.length = rd'.length := by rw [dX.lenD]
  -- the constructors
  refine ⟨_, rfl, pt, _, rfl, gt "rows" _ xX t1, ptr, tv, rfl, .inr (xX.seqT P0 htv), fun LC hLC => ?_⟩
  have v1 : Same HX (upd HX LC (.lst tv)) := same_new hLC
  refine ⟨_, rfl, vTx rfl (Same.seqT v1 hs7X) (atI_nat (j := 1) rfl) (vTx rfl (Same.seqT v1 hs7X) (atI_nat (j := 2) rfl) (vTx rfl (Same.seqT v1 hs7X) (atI_nat (j := 3) rfl) ⟨small (by show 4 ≤ _; decide), fun u1 hu1 => ⟨small (by show 1 ≤ _; decide), fun L2 hL2 => ?_⟩⟩))⟩
  have dtX : DtAll K HX tv (ys.map Con.d) := dtv.ext P0 xX
  have v2 : Same (upd HX LC (.lst tv)) (upd (upd HX LC (.lst tv)) u1 (.tup [.str name, .int (y0.ar : Nat), .str y0.kd, .ref b7])) := same_new hu1
  have v3 : Same (upd (upd HX LC (.lst tv)) u1 (.tup [.str name, .int (y0.ar : Nat), .str y0.kd, .ref b7])) (upd (upd (upd HX LC (.lst tv)) u1 (.tup [.str name, .int (y0.ar : Nat), .str y0.kd, .ref b7])) L2 (.lst [.ref u1])) := same_new hL2
  have hLC3 := (v2.trans v3) _ _ (show (upd HX LC (.lst tv)) LC = some (.lst tv) from upd_same)
  have hL23 : (upd (upd (upd HX LC (.lst tv)) u1 (.tup [.str name, .int (y0.ar : Nat), .str y0.kd, .ref b7])) L2 (.lst [.ref u1])) L2 = some (.lst [.ref u1]) := upd_same
  have v13 := (v1.trans v2).trans v3
  have dnew : Dt K (upd (upd (upd HX LC (.lst tv)) u1 (.tup [.str name, .int (y0.ar : Nat), .str y0.kd, .ref b7])) L2 (.lst [.ref u1])) (.ref u1) (Con.mk name y0.ar y0.kd y0.pl).d :=
    .tup (Same.seqT v3 (SqT.of upd_same)) (.cons (.str _) (.cons (.int _) (.cons (.str _) (.cons (.tup (Same.seqT v13 hb7X) (DtAll.ints y0.pl)) .nil))))
  have dt3 := dtX.same v13
  generalize upd (upd (upd HX LC (HO.lst tv)) u1 (HO.tup [.str name, .int (y0.ar : Nat), .str y0.kd, .ref b7])) L2 (HO.lst [.ref u1]) = HZ at *
  refine ⟨LC, L2, tv, [.ref u1], rfl, rfl, hLC3, hL23, small (by show _ + 1 ≤ _; omega), fun CL hCL => ?_⟩
  have v4 : Same HZ (upd HZ CL (.lst (tv ++ [.ref u1]))) := same_new hCL
  have vZ := v13.trans v4
  have dC : DtAll K (upd HZ CL (.lst (tv ++ [.ref u1]))) (tv ++ [.ref u1]) ((ys ++ [Con.mk name y0.ar y0.kd y0.pl]).map Con.d) := by
    rw [List.map_append]
    exact (dt3.append (.cons dnew .nil)).same v4
  have hCLZ : (upd HZ CL (.lst (tv ++ [.ref u1]))) CL = some (.lst (tv ++ [.ref u1])) := upd_same
  generalize upd HZ CL (HO.lst (tv ++ [.ref u1])) = HW at *
  have xW := xX.same vZ
  have ndn : ((ys ++ [Con.mk name y0.ar y0.kd y0.pl]).map Con.nm).Nodup := by
    rw [List.map_append]
    refine List.nodup_append.mpr ⟨ndy, List.nodup_cons.mpr ⟨List.not_mem_nil, List.nodup_nil⟩, fun a ha b hb e => ?_⟩
    have hb : b = name := List.mem_singleton.mp hb
    rw [← etk1] at ha
    exact wname.2 (by rw [← hb, ← e]; exact ha)
  refine ⟨_, rfl, _, rfl, _, rfl, pt, _, rfl, gt "names" _ xW t4, CL, UL, an2, _, uv, _, rd', rfl, hCLZ, dC, vZ _ _ hX, dX.same vZ, by rw [List.length_append]; show _ + 1 ≤ _; omega, by omega, ndn, fun H7' p7 s7 hp7 LG => ?_⟩
  refine ⟨_, rfl, ML, mv, rfl, .inl ⟨SqL.of (s7 _ _ (vZ _ _ hMX)), fun tt htt => ⟨small (by show 2 ≤ _; decide), fun tr htr => ?_⟩⟩⟩
  have s9 : Same H7' (upd (upd H7' tt (.tup mv)) tr (.tup [.ref p7, .ref tt])) := (same_new htt).trans (same_new htr)
  exact q _ tr (.ref p7) (.ref tt) R' ((xW.same s7).same s9) (SqT.of upd_same) ((Dt.tup (SqT.of upd_same) (((dMX.same vZ).same s7).same (same_new htt))).same (same_new htr)) AR
end
end PK
namespace PK
open PySem PySem.Spec PyProof.Rows L2
/-! states that are translated -/
structure CalR (P : Program) (w : World) (K : PySem.W.Frag) (mg : Str → Option Value) (base : Heap) (k : Nat) (x : Str) (sp : Sp) : Prop where
  ex : ∃ (f : Addr) (fd : FuncData) (ps : List Str), FnOk P w K mg base (L2.CX P w) k f fd ps sp ∧ mg x = some (.ref f) ∧ PySem.W.keepIn K (.ref f) = true ∧ Binds K fd ps []
section
variable {X : Cx} {k j : Nat} {x : Str} {sp : Sp} {p pos : Pos} {e : Expr} {es : List Expr} {t : TA} {W : WX} {E0 : XK}
theorem pe_crS (c : CalR X.prog X.w X.K X.mg X.base k x sp) (tk : Takes X W) (hr : Room j X.A) (hk : k ≤ j) (hg : Gl X x) (ha : PA X (e :: es) t)
    (hdb : (x == ("__debug__" : Str)) = false := by decide) (he : starEach (e :: es) X.env = (false, eval e X.env) :: starEach es X.env := by rfl) (hpl : (backTo pos (starEach es X.env)).any (·.1) = false := by rfl) :
    PE X (.Call (.Name x p) (e :: es) [] pos) (tCallS sp (WE W) t) := by
  obtain ⟨f, fd, ps, F, hm, kp, b⟩ := c.ex
  exact pe_callS F (hr.mono hk) hg hm kp b (fun σ => passAt tk σ) ha hdb he hpl
theorem pe_crP (c : CalR X.prog X.w X.K X.mg X.base k x sp) (px : ∀ σ, PassesAt (L2.CX X.prog X.w) X σ E0) (hr : Room j X.A) (hk : k ≤ j) (hg : Gl X x) (ha : PA X (e :: es) t)
    (hdb : (x == ("__debug__" : Str)) = false := by decide) (he : starEach (e :: es) X.env = (false, eval e X.env) :: starEach es X.env := by rfl) (hpl : (backTo pos (starEach es X.env)).any (·.1) = false := by rfl) :
    PE X (.Call (.Name x p) (e :: es) [] pos) (tCallS sp (fun _ => E0) t) := by
  obtain ⟨f, fd, ps, F, hm, kp, b⟩ := c.ex
  exact pe_callS F (hr.mono hk) hg hm kp b px ha hdb he hpl
end
/-! isinstance of a caught error without fields -/
def rIsN0 (K : PySem.W.Frag) (a : Addr) (cls : Value) (d : Option Addr) : List V → Hp → VK → Prop := fun xs H Q =>
  ∃ (c : V) (cv : Value) (yes : Bool) (D : Addr), xs = [.ref a, c] ∧ (∀ u, RelV c u → u = cv) ∧ cls = .ref D ∧ d = none ∧ ExcC K D ∧ PySem.W.kitOne K (.ref D) cv = some yes ∧ Q (.bl yes) H
theorem call_isN0 {X : Cx} {a : Addr} {oe : Obj} {cls : Value} {d : Option Addr} {pn : List (Addr × Obj)} (hz : Zc cls d oe) (hf : ∃ vs, oe.data = .fields vs) : CallR (X.suite a ((a, oe) :: pn)) (.builtin "isinstance") (rIsN0 X.K a cls d) := by
  intro pins s σ H xs us Q I r h
  obtain ⟨c, cv, yes, D, rfl, hcv, rfl, rfl, C, hk, q⟩ := h
  exact call_isE C hz hf pins s σ H _ us Q I r ⟨c, cv, yes, rfl, hcv, hk, q⟩
structure TxtW (K : PySem.W.Frag) (mg : Str → Option Value) (aF CL CP : Addr) : Prop extends TxtX K mg aF CL where
  gP : mg "PassError" = some (.ref CP)
  cE : ExcC K CL
  kP : PySem.W.kitOne K (.ref CL) (.ref CP) = some true
def fitT (R : List Rw) (t : Tm) : Prop := (t.trans R).size ≤ 4000 ∧ (t.trans R).ht ≤ 201
def stD (t : Tm) (ss : List Tm) (os : List Int) : PyData := .tuple [t.d, .tuple (ss.map Tm.d), .tuple (os.map .int)]
def spTst (K : PySem.W.Frag) (CL : Addr) : Sp := fun vs H Q E => ∃ (u v : V) (R : List Rw) (t : Tm) (ss : List Tm) (os : List Int), vs = [u, v] ∧ Dt K H u (.tuple (R.map Rw.d)) ∧ Dt K H v (stD t ss os) ∧ okR R ∧ okT R t ∧ (∀ x ∈ ss, okT R x) ∧ ss.length ≤ 1000 ∧
  (∀ (H' : Hp) (v' : V), Same H H' → fitT R t → (∀ x ∈ ss, fitT R x) → Dt K H' v' (stD (t.trans R) (ss.map (Tm.trans R)) os) → Q v' H') ∧ (∀ H' : Hp, Same H H' → (¬ fitT R t ∨ ∃ x ∈ ss, ¬ fitT R x) → E (.ref CL) none H')
section
variable {P : Program} {w : World} {K : PySem.W.Frag} {mg : Str → Option Value} {base : Heap} {aF CL CP : Addr}
abbrev s_translated_state : Stmt := topS 13
theorem sc_translated_state : FnScope ["rows", "state", "control", "store", "out", "term"] ["rows", "state"] (defScope s_translated_state) := ⟨rfl, rfl, rfl, by decide +kernel, rfl, by decide +kernel, by decide +kernel⟩
-- slots: 0:rows(cell) 1:state 2:control 3:store 4:out 5:term(comp)
abbrev s_translate_state : Stmt := topS 15
theorem sc_translate_state : FnScope ["rows", "state"] ["rows", "state"] (defScope s_translate_state) := ⟨rfl, rfl, rfl, by decide +kernel, rfl, by decide +kernel, by decide +kernel⟩
-- slots: 0:rows 1:state
theorem ok_tstd {f : Addr} {fd : FuncData} (F : Fun K "translated_state" "translated_state" s_translated_state f fd) (T : TxtW K mg aF CL CP) (C_translate : CalR P w K mg base 3 "translate" (spTrans K CL)) : FnOk P w K mg base (L2.CX P w) 4 f fd ["rows", "state"] (spTst K CL) := by
  refine F.okX sc_translated_state (fun vs H Q E h => ?_) (fun cdv A outer s H vs Q E hr h => ?_)
  · obtain ⟨_, _, _, _, _, _, rfl, _⟩ := h
    rfl
  obtain ⟨u, v, R, t, ss, os, rfl, hu, hv, oR, oT, oS, ls, q, qE⟩ := h
  refine ⟨_, (pss_cons (ps_asg (pv 1) (pg_tup (by rfl) (pgs_cons (pg_name (i := 2) sc_translated_state.nd rfl (Or.inl rfl)) (pgs_cons (pg_name (i := 3) sc_translated_state.nd rfl (Or.inl rfl)) (pgs_cons (pg_name (i := 4) sc_translated_state.nd rfl (Or.inl rfl)) pgs_nil)))))
    (pss_one (ps_ret (pe_tup (pa_cons (pe_crS C_translate (takes_of rfl rfl rfl rfl) hr (by decide) rfl (pa_cons (pv 0) (pa_cons (pv 2) pa_nil))) (pa_cons (pe_callTy call_tuple_of (by rfl) T.z_tuple (by decide +kernel) (pa_cons (PKE2.pe_lcE (E0 := E) (own := [("term", 5)]) (g := (gName 5)) rfl rfl (takes_of rfl rfl rfl rfl) rfl sc_translated_state.nd (pi_tup (pv 3)) (blkOk_by (N := ["rows", "state", "control", "store", "out", "term"]) (sc := defScope s_translated_state) (by decide +kernel)) (fun _ _ _ _ _ => (pg_name (i := 5) sc_translated_state.nd rfl (Or.inl rfl))) (fun _ _ _ _ _ => pts_nil) (fun _ _ _ _ _ _ px => pe_crP C_translate px hr (by decide) rfl (pa_cons (pv 0) (pa_cons (pv 5) pa_nil)))) pa_nil)) (pa_cons (pv 4) pa_nil))))))), ?_⟩
  unfold stD at hv
  obtain ⟨a, x1, x2, x3, rfl, hs, d1, d2, d3⟩ := Dt.t3 hv
  obtain ⟨b, sv, rfl, hb, dsv⟩ := Dt.tn d2
  have lsv : sv.length = ss.length := by rw [dsv.lenD, List.length_map]
  refine ⟨_, rfl, a, _, rfl, hs, rfl, _, _, rfl, _, _, rfl, _, _, rfl, rfl, ?_⟩
  refine ⟨_, rfl, _, rfl, u, x1, R, t, rfl, hu, d1, oR, oT, fun H1 v1 s1 g1 g2 dv1 => ?_, fun H1 s1 h => qE H1 s1 (.inl fun z => by rcases h with h | h; exact absurd z.1 (by omega); exact absurd z.2 (by omega))⟩
  refine ⟨_, rfl, b, rfl, ⟨_, Same.seqT s1 hb⟩, fun D hD => ?_⟩
  refine lc_it (walk_tup (K := K) (xs := sv)) (fun i H' => ∃ vs, Same H1 H' ∧ H' D = some (.lst vs) ∧ vs.length = i ∧ DtAll K H' vs (((ss.take i).map (Tm.trans R)).map Tm.d) ∧ ∀ x ∈ ss.take i, fitT R x) ⟨[], same_new hD, upd_same, rfl, by rw [List.take_zero]; exact .nil, fun x hx => by simp at hx⟩ (fun i H' _ h => by obtain ⟨_, s, _⟩ := h; exact Same.seqT (s1.trans s) hb) ?_ ?_
  · rintro i z H2 H2' hi ⟨vs, s2, h2, lv, dv, fv⟩ ⟨rfl, gx⟩
    obtain ⟨dd, gd, dx⟩ := dsv.getX gx
    rw [List.getElem?_map] at gd
    cases e0 : ss[i]? with
    | none => rw [e0] at gd; cases gd
    | some k =>
    rw [e0] at gd
    cases gd
    have mk := List.mem_of_getElem? e0
    have s12 := s1.trans s2
    refine ⟨rfl, yes_ ⟨_, rfl, _, rfl, u, z, R, k, rfl, hu.same s12, dx.same s12, oR, oS k mk, fun H3 v3 s3 g3 g4 dv3 => ?_, fun H3 s3 h => qE H3 (s12.trans s3) (.inr ⟨k, mk, fun z => by rcases h with h | h; exact absurd z.1 (by omega); exact absurd z.2 (by omega)⟩)⟩⟩
    have h3 := s3 _ _ h2
    refine ⟨vs, h3, smallL (by omega), vs ++ [v3], Same.upd (s2.trans s3) hD, upd_same, by rw [List.length_append, lv]; rfl, ?_, fun x hx => ?_⟩
    · rw [take_snoc e0, List.map_append, List.map_append]
      exact ((dv.same s3).append (.cons dv3 .nil)).upd h3
    · rw [take_snoc e0] at hx
      rcases List.mem_append.mp hx with h | h
      · exact fv x h
      · rw [List.mem_singleton.mp h]; exact ⟨g3, g4⟩
  rintro H2 ⟨vs, s2, h2, lv, dv, fv⟩
  rw [lsv, List.take_length] at dv fv
  refine ⟨D, _, rfl, .inl ⟨SqL.of h2, fun p1 hp1 => ⟨_, rfl, small (by show 3 ≤ _; decide), fun p2 hp2 => ?_⟩⟩⟩
  have s12 := s1.trans s2
  refine q _ _ (s12.trans ((same_new hp1).trans (same_new hp2))) ⟨g1, g2⟩ fv ?_
  exact Dt.mk3 hp2 ((dv1.same s2).same (same_new hp1)) (.tup (SqT.of upd_same) (dv.same (same_new hp1))) ((d3.same s12).same (same_new hp1))
theorem ok_tst {f : Addr} {fd : FuncData} (F : Fun K "translate_state" "translate_state" s_translate_state f fd) (T : TxtW K mg aF CL CP) (C_translated_state : CalR P w K mg base 4 "translated_state" (spTst K CL)) : FnOk P w K mg base (L2.CX P w) 5 f fd ["rows", "state"] (spTst K CL) := by
  refine F.okX sc_translate_state (fun vs H Q E h => ?_) (fun cdv A outer s H vs Q E hr h => ?_)
  · obtain ⟨_, _, _, _, _, _, rfl, _⟩ := h
    rfl
  obtain ⟨u, v, R, t, ss, os, rfl, hu, hv, oR, oT, oS, ls, q, qE⟩ := h
  refine ⟨_, (pss_one (ps_ret (pe_crS C_translated_state (takes_of rfl rfl rfl rfl) hr (by decide) rfl (pa_cons (pv 0) (pa_cons (pv 1) pa_nil))))), ?_⟩
  exact ⟨_, rfl, _, rfl, u, v, R, t, ss, os, rfl, hu, hv, oR, oT, oS, ls, q, qE⟩
end
end PK
namespace PK
open PySem PySem.Spec PyProof.Rows L2
/-! images and chains -/
def nest (w : Str) : Nat → Tm → Tm
  | 0, t => t
  | m + 1, t => .node w [nest w m t]
theorem nest_ht (w : Str) : ∀ (m : Nat) (t : Tm), (nest w m t).ht = m + t.ht ∧ (nest w m t).size = m + t.size
  | 0, t => ⟨(Nat.zero_add _).symm, (Nat.zero_add _).symm⟩
  | m + 1, t => by
    have ih := nest_ht w m t
    show (Tm.node w [nest w m t]).ht = _ ∧ (Tm.node w [nest w m t]).size = _
    rw [Tm.ht_eq, Tm.size_eq]
    show 1 + max (nest w m t).ht 0 = _ ∧ 1 + ((nest w m t).size + 0) = _
    rw [ih.1, ih.2]
    omega
theorem nest_add (w : Str) : ∀ (a b : Nat) (t : Tm), nest w a (nest w b t) = nest w (a + b) t
  | 0, b, t => by rw [Nat.zero_add]; rfl
  | a + 1, b, t => by
    show Tm.node w [nest w a (nest w b t)] = _
    rw [nest_add w a b t, Nat.succ_add]; rfl
theorem nest_out (w : Str) : ∀ (m : Nat) (t : Tm), Tm.node w [nest w m t] = nest w m (.node w [t])
  | 0, t => rfl
  | m + 1, t => by
    show Tm.node w [Tm.node w [nest w m t]] = Tm.node w [nest w m (.node w [t])]
    rw [nest_out w m t]
theorem nest_fill (w s : Str) (k : Tm) : ∀ m : Nat, (nest w m (.var s)).fill [(s, k)] = nest w m k
  | 0 => by
    show (Tm.var s).fill [(s, k)] = k
    rw [Tm.fill_eq]
    show (lookA [(s, k)] s).getD _ = k
    rw [lookA_cons]
    show (match (none : Option Tm) with | some t => some t | none => if s = s then some k else none).getD _ = k
    simp
  | m + 1 => by
    show (Tm.node w [nest w m (.var s)]).fill _ = Tm.node w [nest w m k]
    rw [Tm.fill_eq]
    show Tm.node w [(nest w m (.var s)).fill [(s, k)]] = _
    rw [nest_fill w s k m]
theorem nest_var (w s : Str) : ∀ m : Nat, okP [s] (nest w m (.var s))
  | 0 => .mk ⟨Nat.zero_le _, fun u e => by cases e; exact List.mem_singleton.mpr rfl⟩ fun k hk => by cases hk
  | m + 1 => .mk ⟨by show 1 ≤ 1000; decide, fun u e => nomatch e⟩ fun k hk => by rw [List.mem_singleton.mp hk]; exact nest_var w s m
/-- the data of a nesting, seen from outside -/
theorem nest_get {K : PySem.W.Frag} {H : Hp} {v : V} {w : Str} {m : Nat} {t : Tm} (h : Dt K H v (nest w (m + 1) t).d) : ∃ a b x, v = .ref a ∧ SqT K H a [.str "node", .str w, .ref b] ∧ SqT K H b [x] ∧ Dt K H x (nest w m t).d := by
  have h : Dt K H v (Tm.node w [nest w m t]).d := h
  unfold Tm.d at h
  obtain ⟨a, x1, x2, x3, rfl, hs, h1, h2, h3⟩ := Dt.t3 h
  obtain rfl := h1.s
  obtain rfl := h2.s
  rw [Tm.ds_map] at h3
  obtain ⟨b, ys, rfl, hb, dys⟩ := Dt.tn h3
  cases dys with
  | cons k t =>
    cases t
    exact ⟨a, b, _, rfl, hs, hb, k⟩
def spImg (K : PySem.W.Frag) : Sp := fun vs H Q _ => ∃ (rv v : V) (R : List Rw) (t : Tm) (ss : List Tm) (os : List Int), vs = [rv, v] ∧ Dt K H rv (.tuple (R.map Rw.d)) ∧ RwP R ∧ Dt K H v (stD t ss os) ∧ okT R t ∧ t.ht < 20 ∧ (∀ x ∈ ss, okT R x ∧ x.ht < 20) ∧ ss.length ≤ 1000 ∧
  ∀ (H' : Hp) (v' : V), Same H H' → Dt K H' v' (stD (t.trans R) (ss.map (Tm.trans R)) os) → Q v' H'
def spNest (K : PySem.W.Frag) : Sp := fun vs H Q _ => ∃ (w : Str) (m : Nat) (x : V) (t : Tm), vs = [.str w, .int (m : Nat), x] ∧ Dt K H x t.d ∧ m ≤ 1000 ∧ ∀ (H' : Hp) (v : V), Same H H' → Dt K H' v (nest w m t).d → Q v H'
def spIsN (K : PySem.W.Frag) : Sp := fun vs H Q _ => ∃ (w : Str) (m : Nat) (x y : V) (i : Int), vs = [x, .str w, .int (m : Nat), y] ∧ Dt K H x (nest w m (.int i)).d ∧ Dt K H y (Tm.int i).d ∧ m ≤ 1000 ∧ ∀ H', Same H H' → Q (.bl true) H'
section
variable {P : Program} {w : World} {K : PySem.W.Frag} {mg : Str → Option Value} {base : Heap} {aF CL CP : Addr}
abbrev s_law_image : Stmt := topS 52
theorem sc_law_image : FnScope ["rows", "state", "worth"] ["rows", "state"] (defScope s_law_image) := ⟨rfl, rfl, rfl, by decide +kernel, rfl, by decide +kernel, by decide +kernel⟩
-- slots: 0:rows(cell) 1:state 2:worth(comp)
abbrev s_law_nested : Stmt := topS 53
theorem sc_law_nested : FnScope ["name", "many", "inner", "term", "k"] ["name", "many", "inner"] (defScope s_law_nested) := ⟨rfl, rfl, rfl, by decide +kernel, rfl, by decide +kernel, by decide +kernel⟩
-- slots: 0:name 1:many 2:inner 3:term 4:k
abbrev s_law_is_nested : Stmt := topS 54
theorem sc_law_is_nested : FnScope ["term", "name", "many", "inner", "k"] ["term", "name", "many", "inner"] (defScope s_law_is_nested) := ⟨rfl, rfl, rfl, by decide +kernel, rfl, by decide +kernel, by decide +kernel⟩
-- slots: 0:term 1:name 2:many 3:inner 4:k
theorem ok_image {f : Addr} {fd : FuncData} (F : Fun K "_law_image" "_law_image" s_law_image f fd) (T : Txt K mg) (C_law_translate : C8.Cal P w K mg base 30 "_law_translate" (spTrl K 20) []) : FnOk P w K mg base CX0 31 f fd ["rows", "state"] (spImg K) := by
  refine F.ok sc_law_image (fun vs H Q E h => ?_) (fun cdv A outer s H vs Q E hr h => ?_)
  · obtain ⟨_, _, _, _, _, _, rfl, _⟩ := h
    rfl
  obtain ⟨rv, v, R, t, ss, os, rfl, drv, rp, dv, oT, hT, oS, ls, q⟩ := h
  refine ⟨_, (pss_one (ps_ret (pe_tup (pa_cons (C8.pe_c C_law_translate hr (by decide) rfl (pa_cons (pv 0) (pa_cons (pe_ix ix_tup (pv 1) pe_int (fun _ _ => rfl)) pa_nil))) (pa_cons (pe_callTy call_tuple_of (by rfl) T.z_tuple (by decide +kernel) (pa_cons (pe_lc (own := [("worth", 2)]) (g := (gName 2)) (tt := tYes) (by rfl) sc_law_image.nd (pi_tup (pe_ix ix_tup (pv 1) pe_int (fun _ _ => rfl))) (blkOk_by (N := ["rows", "state", "worth"]) (sc := defScope s_law_image) (by decide +kernel)) (fun _ _ _ _ _ => (pg_name (i := 2) sc_law_image.nd rfl (Or.inl rfl))) (fun _ _ _ _ _ => pts_nil) (fun _ _ _ _ _ => (C8.pe_c C_law_translate hr (by decide) rfl (pa_cons (pv 0) (pa_cons (pv 2) pa_nil))))) pa_nil)) (pa_cons (pe_ix ix_tup (pv 1) pe_int (fun _ _ => rfl)) pa_nil)))))), ?_⟩
  unfold stD at dv
  obtain ⟨a, x1, x2, x3, rfl, hs, d1, d2, d3⟩ := Dt.t3 dv
  obtain ⟨b, sv, rfl, hb, dsv⟩ := Dt.tn d2
  have lsv : sv.length = ss.length := by rw [dsv.lenD, List.length_map]
  refine ⟨_, rfl, vTx rfl hs (atI_nat (j := 0) rfl) ⟨rv, x1, R, rfl, RvR.tup drv, rp, .inl ⟨t, hT, oT, d1, fun H1 v1 s1 dv1 => ?_⟩⟩⟩
  have hs1 := Same.seqT s1 hs
  refine vTx rfl hs1 (atI_nat (j := 1) rfl) ⟨b, rfl, ⟨_, Same.seqT s1 hb⟩, fun D hD => ?_⟩
  refine lc_it (walk_tup (K := K) (xs := sv)) (fun i H' => ∃ vs, Same H1 H' ∧ H' D = some (.lst vs) ∧ vs.length = i ∧ DtAll K H' vs (((ss.take i).map (Tm.trans R)).map Tm.d)) ⟨[], same_new hD, upd_same, rfl, by rw [List.take_zero]; exact .nil⟩ (fun i H' _ h => by obtain ⟨_, s, _⟩ := h; exact Same.seqT (s1.trans s) hb) ?_ ?_
  · rintro i z H2 H2' hi ⟨vs, s2, h2, lv, dvs⟩ ⟨rfl, gx⟩
    obtain ⟨dd, gd, dx⟩ := dsv.getX gx
    rw [List.getElem?_map] at gd
    cases e0 : ss[i]? with
    | none => rw [e0] at gd; cases gd
    | some k =>
    rw [e0] at gd
    cases gd
    have mk := List.mem_of_getElem? e0
    have s12 := s1.trans s2
    refine ⟨rfl, yes_ ⟨_, rfl, _, rfl, rv, z, R, rfl, RvR.tup (drv.same s12), rp, .inl ⟨k, (oS k mk).2, (oS k mk).1, dx.same s12, fun H3 v3 s3 dv3 => ?_⟩⟩⟩
    have h3 := s3 _ _ h2
    refine ⟨vs, h3, smallL (by omega), vs ++ [v3], Same.upd (s2.trans s3) hD, upd_same, by rw [List.length_append, lv]; rfl, ?_⟩
    rw [take_snoc e0, List.map_append, List.map_append]
    exact ((dvs.same s3).append (.cons dv3 .nil)).upd h3
  rintro H2 ⟨vs, s2, h2, lv, dvs⟩
  rw [lsv, List.take_length] at dvs
  refine ⟨D, _, rfl, .inl ⟨SqL.of h2, fun p1 hp1 => vTx rfl (Same.seqT (s2.trans (same_new hp1)) hs1) (atI_nat (j := 2) rfl) ⟨small (by show 3 ≤ _; decide), fun p2 hp2 => ?_⟩⟩⟩
  have s12 := s1.trans s2
  refine q _ _ (s12.trans ((same_new hp1).trans (same_new hp2))) ?_
  exact Dt.mk3 hp2 ((dv1.same s2).same (same_new hp1)) (.tup (SqT.of upd_same) (dvs.same (same_new hp1))) ((d3.same s12).same (same_new hp1))
theorem ok_nested {f : Addr} {fd : FuncData} (F : Fun K "_law_nested" "_law_nested" s_law_nested f fd) (T : Txt K mg) : FnOk P w K mg base CX0 1 f fd ["name", "many", "inner"] (spNest K) := by
  refine F.ok sc_law_nested (fun vs H Q E h => ?_) (fun cdv A outer s H vs Q E hr h => ?_)
  · obtain ⟨_, _, _, _, rfl, _⟩ := h
    rfl
  obtain ⟨wd, m, x, t, rfl, dx, lm, q⟩ := h
  refine ⟨_, (pss_cons (ps_set (i := 3) sc_law_nested.nd rfl (Or.inl rfl) (pv 2))
    (pss_cons (ps_for PassesOwn.never rfl (pi_range1 (by rfl) T.z_range (pa_cons (pv 1) pa_nil)) (pg_name (i := 4) sc_law_nested.nd rfl (Or.inl rfl)) (pss_one (ps_set (i := 3) sc_law_nested.nd rfl (Or.inl rfl) (pe_tup (pa_cons pe_str (pa_cons (pv 0) (pa_cons (pe_tup (pa_cons (pv 3) pa_nil)) pa_nil)))))))
    (pss_one (ps_ret (pv 3))))), ?_⟩
  refine ⟨_, rfl, _, rfl, _, rfl, by omega, by omega, for_range (lo := 0) (n := ((m : Nat) : Int).toNat) (fun i σ H' => ∃ (v : V) (o : Option V), σ = [some (.str wd), some (.int (m : Nat)), some x, some v, o] ∧ Same H H' ∧ Dt K H' v (nest wd i t).d) ⟨_, _, rfl, Same.refl _, dx⟩ ?_ ?_⟩
  · rintro i σ H1 hi ⟨v, o, rfl, s1, dv⟩
    refine ⟨_, rfl, _, rfl, small (by show 1 ≤ _; decide), fun p hp => ⟨small (by show 3 ≤ _; decide), fun u hu => ?_⟩⟩
    refine ⟨.ref u, _, rfl, s1.trans ((same_new hp).trans (same_new hu)), ?_⟩
    show Dt K _ _ (Tm.node wd [nest wd i t]).d
    unfold Tm.d
    rw [Tm.ds_map]
    exact Dt.mk3 hu (.str _) (.str _) (.tup (SqT.of upd_same) (.cons (dv.same (same_new hp)) .nil))
  · rintro σ H1 ⟨v, o, rfl, s1, dv⟩
    rw [show ((m : Nat) : Int).toNat = m by omega] at dv
    exact ⟨_, rfl, q H1 v s1 dv⟩
theorem ok_isnested {f : Addr} {fd : FuncData} (F : Fun K "_law_is_nested" "_law_is_nested" s_law_is_nested f fd) (T : Txt K mg) (C_law_same : C8.Cal P w K mg base 60 "_law_same" (spSame K 60) []) : FnOk P w K mg base CX0 61 f fd ["term", "name", "many", "inner"] (spIsN K) := by
  refine F.ok sc_law_is_nested (fun vs H Q E h => ?_) (fun cdv A outer s H vs Q E hr h => ?_)
  · obtain ⟨_, _, _, _, _, rfl, _⟩ := h
    rfl
  obtain ⟨wd, m, x, y, i, rfl, dx, dy, lm, q⟩ := h
  refine ⟨_, (pss_cons (ps_for PassesOwn.never rfl (pi_range1 (by rfl) T.z_range (pa_cons (pv 2) pa_nil)) (pg_name (i := 4) sc_law_is_nested.nd rfl (Or.inl rfl)) (pss_cons (ps_if (PW.pt (pw_or (pt_not (pt_val (pe_callB call_isi (by rfl) T.z_isinstance (by decide +kernel) (pa_cons (pv 0) (pa_cons (pe_bltn (v := .ty "tuple") (by rfl) T.z_tuple (by decide +kernel) rfl) pa_nil))))) (pw_or (pt_cmpR op_ne (pe_callB call_len_seq (by rfl) T.z_len (by decide +kernel) (pa_cons (pv 0) pa_nil)) pe_int (nomark _)) (pw_or1 (pt_not (pt_val (C8.pe_c C_law_same hr (by decide) rfl (pa_cons (pe_slice (r := rSlA K) sl_tupA (pv 0) po_none (po_some pe_int)) (pa_cons (pe_tup (pa_cons pe_str (pa_cons (pv 1) pa_nil))) pa_nil))))))))) (pss_one (ps_ret pe_bl)) pss_nil)
    (pss_cons (ps_if (PW.pt (pw_or (pt_not (pt_val (pe_callB call_isi (by rfl) T.z_isinstance (by decide +kernel) (pa_cons (pe_ix ix_tup (pv 0) pe_int (fun _ _ => rfl)) (pa_cons (pe_bltn (v := .ty "tuple") (by rfl) T.z_tuple (by decide +kernel) rfl) pa_nil))))) (pw_or1 (pt_cmpR op_ne (pe_callB call_len_seq (by rfl) T.z_len (by decide +kernel) (pa_cons (pe_ix ix_tup (pv 0) pe_int (fun _ _ => rfl)) pa_nil)) pe_int (nomark _))))) (pss_one (ps_ret pe_bl)) pss_nil)
    (pss_one (ps_set (i := 0) sc_law_is_nested.nd rfl (Or.inl rfl) (pe_ix ix_tup (pe_ix ix_tup (pv 0) pe_int (fun _ _ => rfl)) pe_int (fun _ _ => rfl)))))))
    (pss_one (ps_ret (C8.pe_c C_law_same hr (by decide) rfl (pa_cons (pv 0) (pa_cons (pv 3) pa_nil)))))), ?_⟩
  have two : ∀ x y : V, [x, y].length ≤ sizeLine := fun x y => small (by show 2 ≤ _; decide)
  refine ⟨_, rfl, _, rfl, by omega, by omega, for_range (lo := 0) (n := ((m : Nat) : Int).toNat) (fun k σ H' => ∃ (v : V) (o : Option V), σ = [some v, some (.str wd), some (.int (m : Nat)), some y, o] ∧ Same H H' ∧ k ≤ m ∧ Dt K H' v (nest wd (m - k) (.int i)).d) ⟨_, _, rfl, Same.refl _, Nat.zero_le _, dx⟩ ?_ ?_⟩
  · rintro k σ H1 hi ⟨v, o, rfl, s1, lk, dv⟩
    obtain ⟨j, ej⟩ : ∃ j, m - k = j + 1 := ⟨m - k - 1, by omega⟩
    rw [ej] at dv
    obtain ⟨a, b, z, rfl, hs, hb, dz⟩ := nest_get dv
    refine vIsi rfl (ty_tup hs) (b := true) (by decide +kernel) ⟨_, rfl, iteF ⟨_, rfl, a, _, rfl, .inr hs, rfl, _, rfl, iteF ⟨_, rfl, _, rfl, a, _, rfl, hs, fun z => absurd z.2 (by show ¬ HT.sIx 3 3 (some 2) = 3; decide), fun _ t2 ht2 => ⟨_, rfl, two _ _, fun t3 ht3 => ?_⟩⟩⟩⟩
    have s2 : Same H1 (upd H1 t2 (.tup [.str "node", .str wd])) := same_new ht2
    have s3 := s2.trans (same_new (o := .tup [.str "node", .str wd]) ht3)
    refine ⟨.ref t2, .ref t3, .tuple [.str "node", .str wd], rfl, ((Dt.mk2 ht2 (.str _) (.str _)).new ht3).dp _ _, (Dt.mk2 ht3 (.str _) (.str _)).dp _ _, by show max 0 (max 0 0) + 1 < 60; decide, rfl, fun H2 s4 => ⟨_, rfl, iteF ?_⟩⟩
    have s5 := s3.trans s4
    have hs5 := Same.seqT s5 hs
    have hb5 := Same.seqT s5 hb
    refine vTx rfl hs5 (atI_nat (j := 2) rfl) ⟨.ref b, .ty "tuple", _, _, true, rfl, .ty "tuple", ty_tup hb5, kit_ty (by decide +kernel), _, rfl, iteF ?_⟩
    refine vTx rfl hs5 (atI_nat (j := 2) rfl) ⟨b, _, rfl, .inr hb5, rfl, _, rfl, iteF ?_⟩
    refine vTx rfl hs5 (atI_nat (j := 2) rfl) ⟨b, _, _, _, rfl, rfl, hb5, atI_nat (j := 0) rfl, ?_⟩
    exact ⟨z, _, rfl, s1.trans s5, by omega, by rw [show m - (k + 1) = j by omega]; exact dz.same s5⟩
  · rintro σ H1 ⟨v, o, rfl, s1, lk, dv⟩
    rw [show ((m : Nat) : Int).toNat = m by omega, Nat.sub_self] at dv
    exact ⟨_, rfl, _, rfl, v, y, (Tm.int i).d, rfl, dv.dp _ _, (dy.same s1).dp _ _, by unfold Tm.d; show max 0 (max 0 0) + 1 < 60; decide, by unfold Tm.d; rfl, fun H2 s2 => q H2 (s1.trans s2)⟩
end
end PK
set_option maxHeartbeats 0
namespace PK
open PySem PySem.Spec PyProof.Rows L2
/-! a chain -/
def chR (w0 w1 w2 : Str) (m : Nat) : List Rw := [⟨w0, ["x"], nest w1 12 (.var "x")⟩, ⟨w2, ["y"], nest w1 m (.var "y")⟩]
def chT (w0 w2 : Str) (k : Nat) (i : Int) : Tm := nest w0 k (.node w2 [.int i])
section
variable {w0 w1 w2 : Str} {m : Nat}
theorem ch_rows (ne : w0 ≠ w2) : rowOf (chR w0 w1 w2 m) w0 = some ⟨w0, ["x"], nest w1 12 (.var "x")⟩ ∧ rowOf (chR w0 w1 w2 m) w2 = some ⟨w2, ["y"], nest w1 m (.var "y")⟩ := by
  unfold chR rowOf
  refine ⟨by rw [List.find?_cons_of_pos (by simp)], ?_⟩
  rw [List.find?_cons_of_neg (by simpa using ne), List.find?_cons_of_pos (by simp)]
theorem ch_trans (ne : w0 ≠ w2) (i : Int) : ∀ k : Nat, (chT w0 w2 k i).trans (chR w0 w1 w2 m) = nest w1 (12 * k + m) (.int i)
  | 0 => by
    show (Tm.node w2 [.int i]).trans _ = _
    rw [trans_node (ch_rows ne).2]
    show (nest w1 m (.var "y")).fill [("y", (Tm.int i).trans _)] = _
    rw [nest_fill, Nat.mul_zero, Nat.zero_add, Tm.trans_eq]
    rfl
  | k + 1 => by
    show (Tm.node w0 [chT w0 w2 k i]).trans _ = _
    rw [trans_node (ch_rows ne).1]
    show (nest w1 12 (.var "x")).fill [("x", (chT w0 w2 k i).trans _)] = _
    rw [nest_fill, ch_trans ne i k, nest_add, show 12 + (12 * k + m) = 12 * (k + 1) + m by omega]
theorem ch_okR (ne : w0 ≠ w2) (hm : 1 ≤ m) : okR (chR w0 w1 w2 m) := by
  obtain ⟨j, rfl⟩ : ∃ j, m = j + 1 := ⟨m - 1, by omega⟩
  have mem : ∀ r ∈ chR w0 w1 w2 (j + 1), r = ⟨w0, ["x"], nest w1 12 (.var "x")⟩ ∨ r = ⟨w2, ["y"], nest w1 (j + 1) (.var "y")⟩ := fun r hr => by
    rcases List.mem_cons.mp hr with h | h
    · exact .inl h
    · exact .inr (List.mem_singleton.mp h)
  refine ⟨?_, by show 2 ≤ 1000; decide, fun r hr => ?_, fun r hr => ?_, fun r hr => ?_⟩
  · show ([w0, w2] : List Str).Nodup
    exact List.nodup_cons.mpr ⟨fun z => ne (List.mem_singleton.mp z), List.nodup_cons.mpr ⟨List.not_mem_nil, List.nodup_nil⟩⟩
  · rcases mem r hr with rfl | rfl <;> (show 1 ≤ 1000; decide)
  · rcases mem r hr with rfl | rfl
    · exact nest_var w1 "x" 12
    · exact nest_var w1 "y" (j + 1)
  · rcases mem r hr with rfl | rfl
    · exact ⟨w1, [nest w1 11 (.var "x")], rfl⟩
    · exact ⟨w1, [nest w1 j (.var "y")], rfl⟩
theorem ch_okT (i : Int) : ∀ k : Nat, okT (chR w0 w1 w2 m) (chT w0 w2 k i)
  | 0 => .mk ⟨by show 1 ≤ 1000; decide, fun c ts e => by
      have e : Tm.node w2 [.int i] = .node c ts := e
      cases e
      exact ⟨_, List.mem_cons_of_mem _ List.mem_cons_self, rfl, rfl⟩⟩ fun k hk => by
    rw [List.mem_singleton.mp (show k ∈ [Tm.int i] from hk)]
    exact okT_leaf rfl fun _ _ z => nomatch z
  | k + 1 => .mk ⟨by show 1 ≤ 1000; decide, fun c ts e => by
      have e : Tm.node w0 [chT w0 w2 k i] = .node c ts := e
      cases e
      exact ⟨_, List.mem_cons_self, rfl, rfl⟩⟩ fun k2 hk => by
    rw [List.mem_singleton.mp (show k2 ∈ [chT w0 w2 k i] from hk)]
    exact ch_okT i k
theorem ch_pln (h0 : SOk w0) (h2 : SOk w2) (i : Int) : ∀ k : Nat, pln (chT w0 w2 k i).d = true
  | 0 => by
    show pln (Tm.node w2 [.int i]).d = true
    unfold Tm.d
    rw [Tm.ds_map]
    have hn : PyData.strOk ("node" : Str) = true := by decide +kernel
    have hi : PyData.strOk ("int" : Str) = true := by decide +kernel
    have h2 : PyData.strOk w2 = true := h2
    have e : (Tm.int i).d = .tuple [.str "int", .int i] := by unfold Tm.d; rfl
    rw [List.map_cons, List.map_nil, e]
    simp [pln, plnAll, hn, hi, h2]
  | k + 1 => by
    show pln (Tm.node w0 [chT w0 w2 k i]).d = true
    unfold Tm.d
    rw [Tm.ds_map]
    have hn : PyData.strOk ("node" : Str) = true := by decide +kernel
    have h0' : PyData.strOk w0 = true := h0
    have ih := ch_pln h0 h2 i k
    rw [List.map_cons, List.map_nil]
    simp [pln, plnAll, hn, h0', ih]
end
def spTrue : Sp := fun vs H Q _ => ∃ (l c : Addr), vs = [.ref l] ∧ Pool H l c ∧ ∀ H', Q (.bl true) H'
section
variable {P : Program} {w : World} {K : PySem.W.Frag} {mg : Str → Option Value} {base : Heap} {aF CL CP : Addr}
abbrev s_law_chain : Stmt := topS 55
theorem sc_law_chain : FnScope ["pool", "words", "many", "last", "first", "rows", "inner", "chain", "is_high", "state", "told", "wrong"] ["pool"] (defScope s_law_chain) := ⟨rfl, rfl, rfl, by decide +kernel, rfl, by decide +kernel, by decide +kernel⟩
-- slots: 0:pool 1:words 2:many 3:last 4:first 5:rows 6:inner 7:chain 8:is_high 9:state 10:told 11:wrong
theorem ok_chain {f : Addr} {fd : FuncData} (F : Fun K "_law_chain" "_law_chain" s_law_chain f fd) (T : TxtW K mg aF CL CP) (C_law_take : C8.Cal P w K mg base 2 "_law_take" (spTake 2) []) (C_law_words : C8.Cal P w K mg base 3 "_law_words" spWords []) (C_law_number : C8.Cal P w K mg base 3 "_law_number" spNum []) (C_law_nested : C8.Cal P w K mg base 1 "_law_nested" (spNest K) []) (C_law_is_nested : C8.Cal P w K mg base 61 "_law_is_nested" (spIsN K) []) (C_law_same : C8.Cal P w K mg base 60 "_law_same" (spSame K 60) []) (C_translate_state : CalR P w K mg base 5 "translate_state" (spTst K CL)) : FnOk P w K mg base CX0 62 f fd ["pool"] spTrue := by
  refine F.ok sc_law_chain (fun vs H Q E h => ?_) (fun cdv A outer s H vs Q E hr h => ?_)
  · obtain ⟨_, _, rfl, _⟩ := h
    rfl
  obtain ⟨l, c, rfl, P0, q⟩ := h
  refine ⟨_, (pss_cons (ps_set (i := 1) sc_law_chain.nd rfl (Or.inl rfl) (C8.pe_c C_law_words hr (by decide) rfl (pa_cons (pv 0) (pa_cons pe_int pa_nil))))
    (pss_cons (ps_set (i := 2) sc_law_chain.nd rfl (Or.inl rfl) (pe_op op_add pe_int (C8.pe_c C_law_take hr (by decide) rfl (pa_cons (pv 0) (pa_cons pe_int pa_nil)))))
    (C8.pss_cut (ps_if (pt_cmpR op_eq (C8.pe_c C_law_take hr (by decide) rfl (pa_cons (pv 0) (pa_cons pe_int pa_nil))) pe_int (nomark _)) (pss_one (ps_set (i := 2) sc_law_chain.nd rfl (Or.inl rfl) pe_int)) pss_nil)
    (pss_cons (ps_set (i := 3) sc_law_chain.nd rfl (Or.inl rfl) (pe_op op_add pe_int (C8.pe_c C_law_take hr (by decide) rfl (pa_cons (pv 0) (pa_cons pe_int pa_nil)))))
    (pss_cons (ps_set (i := 4) sc_law_chain.nd rfl (Or.inl rfl) (pe_tup (pa_cons (pe_ix ix_list (pv 1) pe_int (fun _ _ => rfl)) (pa_cons (pe_tup (pa_cons pe_str pa_nil)) (pa_cons (C8.pe_c C_law_nested hr (by decide) rfl (pa_cons (pe_ix ix_list (pv 1) pe_int (fun _ _ => rfl)) (pa_cons pe_int (pa_cons (pe_tup (pa_cons pe_str (pa_cons pe_str pa_nil))) pa_nil)))) pa_nil)))))
    (pss_cons (ps_set (i := 5) sc_law_chain.nd rfl (Or.inl rfl) (pe_tup (pa_cons (pv 4) (pa_cons (pe_tup (pa_cons (pe_ix ix_list (pv 1) pe_int (fun _ _ => rfl)) (pa_cons (pe_tup (pa_cons pe_str pa_nil)) (pa_cons (C8.pe_c C_law_nested hr (by decide) rfl (pa_cons (pe_ix ix_list (pv 1) pe_int (fun _ _ => rfl)) (pa_cons (pv 3) (pa_cons (pe_tup (pa_cons pe_str (pa_cons pe_str pa_nil))) pa_nil)))) pa_nil)))) pa_nil))))
    (pss_cons (ps_set (i := 6) sc_law_chain.nd rfl (Or.inl rfl) (pe_tup (pa_cons pe_str (pa_cons (C8.pe_c C_law_number hr (by decide) rfl (pa_cons (pv 0) pa_nil)) pa_nil))))
    (pss_cons (ps_set (i := 7) sc_law_chain.nd rfl (Or.inl rfl) (C8.pe_c C_law_nested hr (by decide) rfl (pa_cons (pe_ix ix_list (pv 1) pe_int (fun _ _ => rfl)) (pa_cons (pv 2) (pa_cons (pe_tup (pa_cons pe_str (pa_cons (pe_ix ix_list (pv 1) pe_int (fun _ _ => rfl)) (pa_cons (pe_tup (pa_cons (pv 6) pa_nil)) pa_nil)))) pa_nil)))))
    (pss_cons (ps_set (i := 8) sc_law_chain.nd rfl (Or.inl rfl) (pe_cmpR op_gt (pe_op op_add (pe_op op_mul pe_int (pv 2)) (pv 3)) pe_int (nomark _)))
    (pss_cons (ps_set (i := 9) sc_law_chain.nd rfl (Or.inl rfl) (pe_tup (pa_cons (pe_tup (pa_cons pe_str (pa_cons pe_int pa_nil))) (pa_cons (pe_tup (pa_cons (pe_tup (pa_cons pe_str (pa_cons pe_int pa_nil))) (pa_cons (pv 7) pa_nil))) (pa_cons (pe_tup (pa_cons pe_int pa_nil)) pa_nil)))))
    (C8.pss_cut (ps_if (pt_cmpR op_eq (C8.pe_c C_law_take hr (by decide) rfl (pa_cons (pv 0) (pa_cons pe_int pa_nil))) pe_int (nomark _)) (pss_one (ps_set (i := 9) sc_law_chain.nd rfl (Or.inl rfl) (pe_tup (pa_cons (pv 7) (pa_cons (pe_tup pa_nil) (pa_cons (pe_tup pa_nil) pa_nil)))))) pss_nil)
    (pss_cons (ps_try_as (i := 11) rfl rfl sc_law_chain.nd rfl rfl ⟨rfl, by decide, .inl T.gL⟩ takes0 (fun W pn xe tk _ => pss_one (ps_set (i := 10) sc_law_chain.nd rfl (Or.inl rfl) (pe_crS C_translate_state tk hr (by decide) rfl (pa_cons (pv 5) (pa_cons (pv 9) pa_nil))))) (fun a oe cls d pn hz hf => pss_one (ps_ret (pe_and (pv 8) (pe_one (pe_callB (id := "isinstance") (call_isN0 hz hf) (by rfl) T.z_isinstance (by decide +kernel) (pa_cons (pv 11) (pa_cons (pe_glob (v := .ref CP) rfl T.gP rfl) pa_nil))))))))
    (pss_cons (ps_if (PW.pt (pw_or (pt_val (pv 8)) (pw_or (pt_not (pt_val (pe_callB call_isi (by rfl) T.z_isinstance (by decide +kernel) (pa_cons (pv 10) (pa_cons (pe_bltn (v := .ty "tuple") (by rfl) T.z_tuple (by decide +kernel) rfl) pa_nil))))) (pw_or (pt_cmpR op_ne (pe_callB call_len_seq (by rfl) T.z_len (by decide +kernel) (pa_cons (pv 10) pa_nil)) pe_int (nomark _)) (pw_or1 (pt_not (pt_val (pe_callB call_isi (by rfl) T.z_isinstance (by decide +kernel) (pa_cons (pe_ix ix_tup (pv 10) pe_int (fun _ _ => rfl)) (pa_cons (pe_bltn (v := .ty "tuple") (by rfl) T.z_tuple (by decide +kernel) rfl) pa_nil)))))))))) (pss_one (ps_ret pe_bl)) pss_nil)
    (pss_cons (ps_if (pt_cmpR (PKE.op_neN (n := 190) (eqU hr)) (pe_ix ix_tup (pv 9) pe_int (fun _ _ => rfl)) (pe_tup (pa_cons pe_str (pa_cons pe_int pa_nil))) (nomark _)) (pss_one (ps_ret (pe_and (C8.pe_c C_law_same hr (by decide) rfl (pa_cons (pe_slice (r := rSlA K) sl_tupA (pv 10) (po_some pe_int) po_none) (pa_cons (pe_tup (pa_cons (pe_tup pa_nil) (pa_cons (pe_tup pa_nil) pa_nil))) pa_nil))) (pe_one (C8.pe_c C_law_is_nested hr (by decide) rfl (pa_cons (pe_ix ix_tup (pv 10) pe_int (fun _ _ => rfl)) (pa_cons (pe_ix ix_list (pv 1) pe_int (fun _ _ => rfl)) (pa_cons (pe_op op_add (pe_op op_mul pe_int (pv 2)) (pv 3)) (pa_cons (pv 6) pa_nil))))))))) pss_nil)
    (pss_cons (ps_if (PW.pt (pw_or (pt_cmpR op_ne (pe_callB call_len_seq (by rfl) T.z_len (by decide +kernel) (pa_cons (pe_ix ix_tup (pv 10) pe_int (fun _ _ => rfl)) pa_nil)) pe_int (nomark _)) (pw_or1 (pt_not (pt_val (C8.pe_c C_law_same hr (by decide) rfl (pa_cons (pe_tup (pa_cons (pe_ix ix_tup (pv 10) pe_int (fun _ _ => rfl)) (pa_cons (pe_ix ix_tup (pe_ix ix_tup (pv 10) pe_int (fun _ _ => rfl)) pe_int (fun _ _ => rfl)) (pa_cons (pe_ix ix_tup (pv 10) pe_int (fun _ _ => rfl)) pa_nil)))) (pa_cons (pe_tup (pa_cons (pe_tup (pa_cons pe_str (pa_cons pe_int pa_nil))) (pa_cons (pe_tup (pa_cons pe_str (pa_cons pe_int pa_nil))) (pa_cons (pe_tup (pa_cons pe_int pa_nil)) pa_nil)))) pa_nil)))))))) (pss_one (ps_ret pe_bl)) pss_nil)
    (pss_one (ps_ret (C8.pe_c C_law_is_nested hr (by decide) rfl (pa_cons (pe_ix ix_tup (pe_ix ix_tup (pv 10) pe_int (fun _ _ => rfl)) pe_int (fun _ _ => rfl)) (pa_cons (pe_ix ix_list (pv 1) pe_int (fun _ _ => rfl)) (pa_cons (pe_op op_add (pe_op op_mul pe_int (pv 2)) (pv 3)) (pa_cons (pv 6) pa_nil)))))))))))))))))))))), ?_⟩
  have two : ∀ x y : V, [x, y].length ≤ sizeLine := fun x y => small (by show 2 ≤ _; decide)
  have three : ∀ x y z : V, [x, y, z].length ≤ sizeLine := fun x y z => small (by show 3 ≤ _; decide)
  have one : ∀ x : V, [x].length ≤ sizeLine := fun x => small (by show 1 ≤ _; decide)
  refine ⟨_, rfl, l, c, 3, rfl, P0, by decide, fun H1 pw ws x1 hpw0 hpw lws ndw wws => ?_⟩
  obtain ⟨w0, w1, w2, rfl⟩ : ∃ a b d, ws = [a, b, d] := by
    match ws, lws with
    | [a, b, d], _ => exact ⟨a, b, d, rfl⟩
  have npw := P0.ne hpw0
  have ne02 : w0 ≠ w2 := fun z => by
    have h := (List.nodup_cons.mp ndw).1
    exact h (by rw [z]; simp)
  have so0 := (wws w0 (by simp)).1.sok
  have so2 := (wws w2 (by simp)).1.sok
  have hpw : H1 pw = some (.lst [.str w0, .str w1, .str w2]) := hpw
  refine vTake rfl x1.pool (by decide) (by decide) fun d H2 d0 d1 x2 => ⟨_, _, rfl, rfl, ?_⟩
  refine ⟨fun σ H' => ∃ many : Nat, σ = [some (.ref l), some (.ref pw), some (.int (many : Nat)), none, none, none, none, none, none, none, none, none] ∧ Ext l c H1 H' ∧ 1 ≤ many ∧ many ≤ 16, ?_, ?_⟩
  · refine vTake rfl x2.pool (by decide) (by decide) fun d' H3 d0' d1' x3 => ⟨rfl, _, rfl, ite2 (fun _ => ⟨16, rfl, x2.trans x3, by decide, by decide⟩) (fun _ => ?_)⟩
    obtain ⟨n, rfl⟩ : ∃ n : Nat, d = n := ⟨d.toNat, by omega⟩
    have ev : V.int ((1 : Int) + (n : Int)) = V.int ((1 + n : Nat) : Int) := by rw [Int.natCast_add]; rfl
    refine ⟨1 + n, ?_, x2.trans x3, by omega, by omega⟩
    rw [← ev]; rfl
  rintro σ H3 ⟨many, rfl, x3, m1, m16⟩
  refine vTake rfl x3.pool (by decide) (by decide) fun d3 H4 d30 d31 x4 => ⟨_, _, rfl, rfl, ?_⟩
  obtain ⟨n3, rfl⟩ : ∃ n : Nat, d3 = n := ⟨d3.toNat, by omega⟩
  obtain ⟨last, elast, l1, l12⟩ : ∃ last : Nat, (1 : Int) + (n3 : Int) = (last : Nat) ∧ 1 ≤ last ∧ last ≤ 12 := ⟨1 + n3, by omega, by omega, by omega⟩
  show gName 3 (V.int ((1 : Int) + (n3 : Int))) _ _ _
  rw [elast]
  have x14 := x3.trans x4
  have y4 := x1.trans x14
  have P4 := y4.pool
  have hpw4 := x14.keep _ _ npw.1 hpw
  clear elast
  -- the first row
  have W0 : ∀ {H' : Hp} {Q' : VK}, Same H4 H' → Q' (.str w0) H' → rIxL K (.ref pw) (.int 0) H' Q' := fun {H' Q'} s h => ⟨pw, _, _, _, rfl, rfl, SqL.of (s _ _ hpw4), atI_nat (j := 0) rfl, h⟩
  have W1 : ∀ {H' : Hp} {Q' : VK}, Same H4 H' → Q' (.str w1) H' → rIxL K (.ref pw) (.int 1) H' Q' := fun {H' Q'} s h => ⟨pw, _, _, _, rfl, rfl, SqL.of (s _ _ hpw4), atI_nat (j := 1) rfl, h⟩
  have W2 : ∀ {H' : Hp} {Q' : VK}, Same H4 H' → Q' (.str w2) H' → rIxL K (.ref pw) (.int 2) H' Q' := fun {H' Q'} s h => ⟨pw, _, _, _, rfl, rfl, SqL.of (s _ _ hpw4), atI_nat (j := 2) rfl, h⟩
  refine ⟨_, rfl, W0 (Same.refl _) ⟨one _, fun p1 hp1 => ⟨_, rfl, W1 (same_new hp1) ⟨two _ _, fun p2 hp2 => ?_⟩⟩⟩⟩
  have s1 : Same H4 (upd H4 p1 (.tup [.str "x"])) := same_new hp1
  have dp1 : Dt K (upd H4 p1 (.tup [.str "x"])) (.ref p1) (.tuple [.str "x"]) := .tup (SqT.of upd_same) (.cons (.str _) .nil)
  have s2 : Same (upd H4 p1 (.tup [.str "x"])) (upd (upd H4 p1 (.tup [.str "x"])) p2 (.tup [.str "meta", .str "x"])) := same_new hp2
  refine ⟨w1, 12, .ref p2, .var "x", rfl, dt_var hp2, by decide, fun H5 v5 s5 dv5 => ⟨three _ _ _, fun p3 hp3 => ?_⟩⟩
  have r1 : Dt K (upd H5 p3 (.tup [.str w0, .ref p1, v5])) (.ref p3) (Rw.mk w0 ["x"] (nest w1 12 (.var "x"))).d := Dt.mk3 hp3 (.str _) ((dp1.same s2).same s5) dv5
  have sA : Same H4 (upd H5 p3 (.tup [.str w0, .ref p1, v5])) := ((s1.trans s2).trans s5).trans (same_new hp3)
  generalize upd H5 p3 (HO.tup [.str w0, .ref p1, v5]) = HA at *
  -- the rows
  refine ⟨_, rfl, _, rfl, W2 sA ⟨one _, fun q1 hq1 => ⟨_, rfl, pw, _, _, _, rfl, rfl, SqL.of ((same_new hq1) _ _ (sA _ _ hpw4)), atI_nat (j := 1) rfl, _, rfl, two _ _, fun q2 hq2 => ?_⟩⟩⟩
  have t1 : Same HA (upd HA q1 (.tup [.str "y"])) := same_new hq1
  have dq1 : Dt K (upd HA q1 (.tup [.str "y"])) (.ref q1) (.tuple [.str "y"]) := .tup (SqT.of upd_same) (.cons (.str _) .nil)
  have t2 : Same (upd HA q1 (.tup [.str "y"])) (upd (upd HA q1 (.tup [.str "y"])) q2 (.tup [.str "meta", .str "y"])) := same_new hq2
  refine ⟨w1, last, .ref q2, .var "y", rfl, dt_var hq2, by omega, fun H6 v6 s6 dv6 => ⟨three _ _ _, fun q3 hq3 => ⟨two _ _, fun q4 hq4 => ?_⟩⟩⟩
  have t6 := (t1.trans t2).trans s6
  have r2 : Dt K (upd H6 q3 (.tup [.str w2, .ref q1, v6])) (.ref q3) (Rw.mk w2 ["y"] (nest w1 last (.var "y"))).d := Dt.mk3 hq3 (.str _) ((dq1.same t2).same s6) dv6
  have t7 : Same H6 (upd H6 q3 (.tup [.str w2, .ref q1, v6])) := same_new hq3
  have t8 : Same (upd H6 q3 (.tup [.str w2, .ref q1, v6])) (upd (upd H6 q3 (.tup [.str w2, .ref q1, v6])) q4 (.tup [.ref p3, .ref q3])) := same_new hq4
  have dR : Dt K (upd (upd H6 q3 (.tup [.str w2, .ref q1, v6])) q4 (.tup [.ref p3, .ref q3])) (.ref q4) (.tuple ((chR w0 w1 w2 last).map Rw.d)) :=
    .tup (SqT.of upd_same) (.cons (((r1.same t6).same t7).same t8) (.cons (r2.same t8) .nil))
  have sB : Same H4 (upd (upd H6 q3 (.tup [.str w2, .ref q1, v6])) q4 (.tup [.ref p3, .ref q3])) := ((sA.trans t6).trans t7).trans t8
  generalize upd (upd H6 q3 (HO.tup [.str w2, .ref q1, v6])) q4 (HO.tup [.ref p3, .ref q3]) = HB at *
  have yB := y4.same sB
  -- the inner one
  refine ⟨_, rfl, l, c, rfl, yB.pool, fun i H7 x7 i0 i1 => ⟨two _ _, fun p7 hp7 => ?_⟩⟩
  have z7 := x7.new (o := .tup [.str "int", .int i]) yB.pool hp7
  have dI : Dt K (upd H7 p7 (.tup [.str "int", .int i])) (.ref p7) (Tm.int i).d := by unfold Tm.d; exact Dt.mk2 hp7 (.str _) (.int _)
  have dR7 := dR.ext yB.pool z7
  have hpw7 := z7.keep _ _ npw.1 (sB _ _ hpw4)
  have yC := yB.trans z7
  generalize upd H7 p7 (HO.tup [.str "int", .int i]) = HC at *
  -- the chain
  refine ⟨_, rfl, pw, _, _, _, rfl, rfl, SqL.of hpw7, atI_nat (j := 0) rfl, _, rfl, _, rfl, pw, _, _, _, rfl, rfl, SqL.of hpw7, atI_nat (j := 2) rfl, _, rfl, one _, fun c1 hc1 => ⟨three _ _ _, fun c2 hc2 => ?_⟩⟩
  have u1 : Same HC (upd HC c1 (.tup [.ref p7])) := same_new hc1
  have u2 : Same (upd HC c1 (.tup [.ref p7])) (upd (upd HC c1 (.tup [.ref p7])) c2 (.tup [.str "node", .str w2, .ref c1])) := same_new hc2
  have dn : Dt K (upd (upd HC c1 (.tup [.ref p7])) c2 (.tup [.str "node", .str w2, .ref c1])) (.ref c2) (Tm.node w2 [.int i]).d := by
    unfold Tm.d
    rw [Tm.ds_map]
    exact Dt.mk3 hc2 (.str _) (.str _) (.tup (SqT.of upd_same) (.cons (dI.same u1) .nil))
  refine ⟨w0, many, .ref c2, .node w2 [.int i], rfl, dn, by omega, fun H8 v8 s8 dC => ?_⟩
  have dC : Dt K H8 v8 (chT w0 w2 many i).d := dC
  have u8 := (u1.trans u2).trans s8
  refine ⟨_, rfl, _, _, rfl, rfl, .inl ⟨by decide, by decide⟩, _, rfl, _, _, rfl, rfl, _, _, rfl, rfl, ?_⟩
  have eh : decide ((200 : Int) < 12 * (many : Int) + (last : Int)) = decide (200 < 12 * many + last) := by
    by_cases h : 200 < 12 * many + last
    · rw [decide_eq_true h, decide_eq_true (by omega)]
    · rw [decide_eq_false h, decide_eq_false (by omega)]
  show gName 8 (V.bl (decide ((200 : Int) < 12 * (many : Int) + (last : Int)))) _ _ _
  rw [eh]
  -- the state
  refine ⟨two _ _, fun a1 ha1 => ⟨two _ _, fun a2 ha2 => ⟨_, rfl, two _ _, fun a3 ha3 => ⟨one _, fun a4 ha4 => ⟨three _ _ _, fun a5 ha5 => ?_⟩⟩⟩⟩⟩
  have b1 : Same H8 (upd H8 a1 (.tup [.str "int", .int 1])) := same_new ha1
  have e1 : Dt K (upd H8 a1 (.tup [.str "int", .int 1])) (.ref a1) (Tm.int 1).d := by unfold Tm.d; exact Dt.mk2 ha1 (.str _) (.int _)
  have dC1 := dC.same b1
  generalize upd H8 a1 (HO.tup [.str "int", .int 1]) = HD1 at *
  have b2 : Same HD1 (upd HD1 a2 (.tup [.str "int", .int 2])) := same_new ha2
  have e2 : Dt K (upd HD1 a2 (.tup [.str "int", .int 2])) (.ref a2) (Tm.int 2).d := by unfold Tm.d; exact Dt.mk2 ha2 (.str _) (.int _)
  have e12 := e1.same b2
  have dC2 := dC1.same b2
  generalize upd HD1 a2 (HO.tup [.str "int", .int 2]) = HD2 at *
  have b3 : Same HD2 (upd HD2 a3 (.tup [.ref a2, v8])) := same_new ha3
  have e3 : Dt K (upd HD2 a3 (.tup [.ref a2, v8])) (.ref a3) (.tuple (([.int 2, chT w0 w2 many i] : List Tm).map Tm.d)) := Dt.mk2 ha3 e2 dC2
  have e13 := e12.same b3
  have dC3 := dC2.same b3
  generalize upd HD2 a3 (HO.tup [.ref a2, v8]) = HD3 at *
  have b4 : Same HD3 (upd HD3 a4 (.tup [.int 3])) := same_new ha4
  have e4 : Dt K (upd HD3 a4 (.tup [.int 3])) (.ref a4) (.tuple (([3] : List Int).map .int)) := .tup (SqT.of upd_same) (.cons (.int _) .nil)
  have e14 := e13.same b4
  have e34 := e3.same b4
  have dC4 := dC3.same b4
  generalize upd HD3 a4 (HO.tup [.int 3]) = HD4 at *
  have b5 : Same HD4 (upd HD4 a5 (.tup [.ref a1, .ref a3, .ref a4])) := same_new ha5
  have e5 : Dt K (upd HD4 a5 (.tup [.ref a1, .ref a3, .ref a4])) (.ref a5) (stD (.int 1) [.int 2, chT w0 w2 many i] [3]) := Dt.mk3 ha5 e14 e34 e4
  have dC5 := dC4.same b5
  generalize upd HD4 a5 (HO.tup [.ref a1, .ref a3, .ref a4]) = HD5 at *
  have sD := ((((u8.trans b1).trans b2).trans b3).trans b4).trans b5
  have yD := yC.same sD
  have dRD := dR7.same sD
  have dID := dI.same sD
  have hpwD := sD _ _ hpw7
  refine ⟨fun σ H' => ∃ (v : V) (t : Tm) (ss : List Tm) (os : List Int), σ = [some (.ref l), some (.ref pw), some (.int (many : Nat)), some (.int (last : Nat)), some (.ref p3), some (.ref q4), some (.ref p7), some v8, some (.bl (decide (200 < 12 * many + last))), some v, none, none] ∧ Ext l c HD5 H' ∧ Dt K H' v (stD t ss os) ∧ ((t = .int 1 ∧ ss = [.int 2, chT w0 w2 many i] ∧ os = [3]) ∨ (t = chT w0 w2 many i ∧ ss = [] ∧ os = [])), ?_, ?_⟩
  · refine vTake rfl yD.pool (by decide) (by decide) fun d9 H9 d90 d91 x9 => ⟨rfl, _, rfl, ite2 (fun _ => ?_) (fun _ => ⟨_, _, _, _, rfl, x9, e5.ext yD.pool x9, .inl ⟨rfl, rfl, rfl⟩⟩)⟩
    refine ⟨_, rfl, Nat.zero_le _, fun f1 hf1 => ⟨Nat.zero_le _, fun f2 hf2 => ⟨three _ _ _, fun f3 hf3 => ?_⟩⟩⟩
    have g1 : Same H9 (upd H9 f1 (.tup [])) := same_new hf1
    have g2 : Same (upd H9 f1 (.tup [])) (upd (upd H9 f1 (.tup [])) f2 (.tup [])) := same_new hf2
    refine ⟨_, _, _, _, rfl, x9.same ((g1.trans g2).trans (same_new hf3)), ?_, .inr ⟨rfl, rfl, rfl⟩⟩
    exact Dt.mk3 hf3 (((dC5.ext yD.pool x9).same g1).same g2) ((Dt.tup (SqT.of upd_same) .nil).same g2) (.tup (SqT.of upd_same) .nil)
  rintro σ HE ⟨v, t, ss, os, rfl, xE, dv, alt⟩
  have yE := yD.trans xE
  have dRE := dRD.ext yD.pool xE
  have dIE := dID.ext yD.pool xE
  have hpwE := xE.keep _ _ npw.1 hpwD
  have oR := ch_okR (w1 := w1) ne02 l1
  have oC := ch_okT (w0 := w0) (w1 := w1) (w2 := w2) (m := last) i many
  have tC := ch_trans (w1 := w1) (m := last) ne02 i many
  have fC : fitT (chR w0 w1 w2 last) (chT w0 w2 many i) ↔ ¬ 200 < 12 * many + last := by
    have := nest_ht w1 (12 * many + last) (.int i)
    have h1 := Tm.ht1 (t := .int i) rfl
    unfold fitT
    rw [tC, this.1, this.2, h1.1, h1.2]
    omega
  have fI : ∀ n : Int, (Tm.int n).trans (chR w0 w1 w2 last) = .int n ∧ fitT (chR w0 w1 w2 last) (.int n) := fun n => by
    have e : (Tm.int n).trans (chR w0 w1 w2 last) = .int n := by rw [Tm.trans_eq]; rfl
    have h1 := Tm.ht1 (t := .int n) rfl
    unfold fitT
    rw [e, h1.1, h1.2]
    exact ⟨rfl, by decide, by decide⟩
  have oI : ∀ n : Int, okT (chR w0 w1 w2 last) (.int n) := fun n => okT_leaf rfl fun _ _ z => nomatch z
  refine ⟨_, rfl, _, rfl, .ref q4, v, chR w0 w1 w2 last, t, ss, os, rfl, dRE, dv, oR, ?_, ?_, ?_, fun H9 v9 s9 f1 f2 dv9 => ?_, fun H9 s9 h => ?_⟩
  · rcases alt with ⟨rfl, rfl, rfl⟩ | ⟨rfl, rfl, rfl⟩
    · exact oI 1
    · exact oC
  · rcases alt with ⟨rfl, rfl, rfl⟩ | ⟨rfl, rfl, rfl⟩
    · intro x hx
      rcases List.mem_cons.mp hx with rfl | hx
      · exact oI 2
      · rw [List.mem_singleton.mp hx]; exact oC
    · exact fun x hx => absurd hx List.not_mem_nil
  · rcases alt with ⟨rfl, rfl, rfl⟩ | ⟨rfl, rfl, rfl⟩
    · show 2 ≤ 1000; decide
    · exact Nat.zero_le _
  · have d1 : Dt K H9 (.ref q4) (.tuple ((chR w0 w1 w2 last).map Rw.d)) := dRE.same s9
    have dvE := dv.same s9
    have dI9 := dIE.same s9
    have hpw9 := s9 _ _ hpwE
    unfold stD at dv9 dvE
    obtain ⟨a9, x1', x2', x3', rfl, hs9, k1, k2, k3⟩ := Dt.t3 dv9
    obtain ⟨b9, sv9, rfl, hb9, dsv9⟩ := Dt.tn k2
    obtain ⟨av, z1, z2, z3, rfl, hsv, j1, j2, j3⟩ := Dt.t3 dvE
    have hi : ¬ 200 < 12 * many + last := by
      rcases alt with ⟨rfl, rfl, rfl⟩ | ⟨rfl, rfl, rfl⟩
      · exact fC.mp (f2 _ (by simp))
      · exact fC.mp f1
    have ex : 12 * many + last ≤ 1000 := by omega
    have em : V.int (12 * (many : Int) + (last : Int)) = V.int ((12 * many + last : Nat) : Int) := by first | rfl | (congr 1; omega)
    rw [decide_eq_false hi]
    have pI : pln (Tm.int 1).d = true := by unfold Tm.d; exact plnI (sk _ (by decide +kernel))
    have dpI : (Tm.int 1).d.depth ≤ 190 := by unfold Tm.d; decide
    refine ⟨_, rfl, false, rfl, iteF (vIsi rfl (ty_tup hs9) (b := true) (by decide +kernel) ⟨_, rfl, iteF ⟨_, rfl, a9, _, rfl, .inr hs9, rfl, _, rfl, iteF (vTx rfl hs9 (atI_nat (j := 1) rfl) ⟨.ref b9, .ty "tuple", _, _, true, rfl, .ty "tuple", ty_tup hb9, kit_ty (by decide +kernel), _, rfl, iteF ?_⟩)⟩⟩)⟩
    refine vTx rfl hsv (atI_nat (j := 0) rfl) ⟨two _ _, fun e1 he1 => ?_⟩
    have g1 : Same H9 (upd H9 e1 (.tup [.str "int", .int 1])) := same_new he1
    have de1 : Dt K (upd H9 e1 (.tup [.str "int", .int 1])) (.ref e1) (Tm.int 1).d := by unfold Tm.d; exact Dt.mk2 he1 (.str _) (.int _)
    have hs9' := Same.seqT g1 hs9
    have hb9' := Same.seqT g1 hb9
    have k1' := k1.same g1
    have k3' := k3.same g1
    have dsv9' := dsv9.same g1
    have dI9' := dI9.same g1
    have hpw9' := g1 _ _ hpw9
    have j1' := j1.same g1
    generalize upd H9 e1 (HO.tup [.str "int", .int 1]) = HF at *
    rcases alt with ⟨rfl, rfl, rfl⟩ | ⟨rfl, rfl, rfl⟩
    · refine ⟨(Tm.int 1).d, (Tm.int 1).d, j1'.dp _ _, de1.dp _ _, pln_lay _ pI, pln_lay _ pI, .inr dpI, _, rfl, ?_⟩
      rw [(eqv_pln _ _ pI pI).mpr rfl]
      refine iteF ?_
      rw [(fI 1).1] at k1'
      have e2 : ([Tm.int 2, chT w0 w2 many i] : List Tm).map (Tm.trans (chR w0 w1 w2 last)) = [.int 2, nest w1 (12 * many + last) (.int i)] := by
        rw [List.map_cons, List.map_cons, List.map_nil, (fI 2).1, tC]
      rw [e2] at dsv9'
      obtain ⟨n1, n2, rfl, hn1, hn2⟩ : ∃ n1 n2, sv9 = [n1, n2] ∧ Dt K HF n1 (Tm.int 2).d ∧ Dt K HF n2 (nest w1 (12 * many + last) (.int i)).d := by
        cases dsv9' with
        | cons h1 t1 => cases t1 with
          | cons h2 t2 => cases t2; exact ⟨_, _, rfl, h1, h2⟩
      refine vTx rfl hs9' (atI_nat (j := 1) rfl) ⟨b9, _, rfl, .inr hb9', rfl, _, rfl, iteF ?_⟩
      refine vTx rfl hs9' (atI_nat (j := 0) rfl) (vTx rfl hs9' (atI_nat (j := 1) rfl) ⟨b9, _, _, _, rfl, rfl, hb9', atI_nat (j := 0) rfl, vTx rfl hs9' (atI_nat (j := 2) rfl) ⟨three _ _ _, fun m1 hm1 => ⟨two _ _, fun m2 hm2 => ⟨two _ _, fun m3 hm3 => ⟨one _, fun m4 hm4 => ⟨three _ _ _, fun m5 hm5 => ?_⟩⟩⟩⟩⟩⟩)
      have v1 : Same HF (upd HF m1 (.tup [x1', n1, x3'])) := same_new hm1
      have o1 : Dt K (upd HF m1 (.tup [x1', n1, x3'])) (.ref m1) (.tuple [(Tm.int 1).d, (Tm.int 2).d, .tuple (([3] : List Int).map .int)]) := Dt.mk3 hm1 k1' hn1 k3'
      generalize upd HF m1 (HO.tup [x1', n1, x3']) = HG1 at *
      have v2 : Same HG1 (upd HG1 m2 (.tup [.str "int", .int 1])) := same_new hm2
      have o2 : Dt K (upd HG1 m2 (.tup [.str "int", .int 1])) (.ref m2) (Tm.int 1).d := by unfold Tm.d; exact Dt.mk2 hm2 (.str _) (.int _)
      generalize upd HG1 m2 (HO.tup [.str "int", .int 1]) = HG2 at *
      have v3 : Same HG2 (upd HG2 m3 (.tup [.str "int", .int 2])) := same_new hm3
      have o3 : Dt K (upd HG2 m3 (.tup [.str "int", .int 2])) (.ref m3) (Tm.int 2).d := by unfold Tm.d; exact Dt.mk2 hm3 (.str _) (.int _)
      generalize upd HG2 m3 (HO.tup [.str "int", .int 2]) = HG3 at *
      have v4 : Same HG3 (upd HG3 m4 (.tup [.int 3])) := same_new hm4
      have o4 : Dt K (upd HG3 m4 (.tup [.int 3])) (.ref m4) (.tuple (([3] : List Int).map .int)) := .tup (SqT.of upd_same) (.cons (.int _) .nil)
      generalize upd HG3 m4 (HO.tup [.int 3]) = HG4 at *
      have v5 : Same HG4 (upd HG4 m5 (.tup [.ref m2, .ref m3, .ref m4])) := same_new hm5
      have o5 : Dt K (upd HG4 m5 (.tup [.ref m2, .ref m3, .ref m4])) (.ref m5) (.tuple [(Tm.int 1).d, (Tm.int 2).d, .tuple (([3] : List Int).map .int)]) := Dt.mk3 hm5 ((o2.same v3).same v4) (o3.same v4) o4
      generalize upd HG4 m5 (HO.tup [.ref m2, .ref m3, .ref m4]) = HG5 at *
      have v15 := ((v2.trans v3).trans v4).trans v5
      refine ⟨.ref m1, .ref m5, _, rfl, (o1.same v15).dp _ _, o5.dp _ _, ?_, ?_, fun HH sH => ⟨_, rfl, iteF ?_⟩⟩
      · unfold Tm.d; decide
      · unfold Tm.d; decide
      have w15 := (v1.trans v15).trans sH
      refine vTx rfl (Same.seqT w15 hs9') (atI_nat (j := 1) rfl) ⟨b9, _, _, _, rfl, rfl, Same.seqT w15 hb9', atI_nat (j := 1) rfl, _, rfl, pw, _, _, _, rfl, rfl, SqL.of (w15 _ _ hpw9'), atI_nat (j := 1) rfl, _, rfl, _, _, rfl, rfl, .inl ⟨by decide, by decide⟩, _, rfl, _, _, rfl, rfl, _, rfl, ?_⟩
      exact ⟨w1, 12 * many + last, n2, .ref p7, i, by rw [← em]; first | done | rfl, hn2.same w15, dI9'.same w15, ex, fun H' _ => q H'⟩
    · have pC := ch_pln so0 so2 i many
      refine ⟨_, (Tm.int 1).d, j1'.dp _ _, de1.dp _ _, pln_lay _ pC, pln_lay _ pI, .inr dpI, _, rfl, ?_⟩
      have neq : PyData.eqv (chT w0 w2 many i).d (Tm.int 1).d = false := eqv_no pC pI fun z => by
        obtain ⟨jm, rfl⟩ : ∃ jm, many = jm + 1 := ⟨many - 1, by omega⟩
        have z : (Tm.node w0 [chT w0 w2 jm i]).d = (Tm.int 1).d := z
        unfold Tm.d at z
        have := congrArg (fun d => match d with | PyData.tuple ds => ds.length | _ => 0) z
        simp at this
      rw [neq]
      rw [tC] at k1'
      have e2 : sv9 = [] := by cases dsv9' with | nil => rfl
      subst e2
      have hm0 : Dt K HF (.ref b9) (.tuple []) := .tup hb9' .nil
      have e3 : x3' = x3' := rfl
      refine iteT ⟨_, rfl, _, rfl, a9, _, rfl, hs9', fun z => absurd z.1 (by show ¬ HT.sIx 3 0 (some 1) = 0; decide), fun _ p hp => ⟨Nat.zero_le _, fun m1 hm1 => ⟨Nat.zero_le _, fun m2 hm2 => ⟨two _ _, fun m3 hm3 => ?_⟩⟩⟩⟩
      have ec : cutV [x1', .ref b9, x3'] (some 1) none = [.ref b9, x3'] := rfl
      rw [ec] at hm1 hm2 hm3 ⊢
      have v0 : Same HF (upd HF p (.tup [.ref b9, x3'])) := same_new hp
      have o0 : Dt K (upd HF p (.tup [.ref b9, x3'])) (.ref p) (.tuple [.tuple [], .tuple []]) := Dt.mk2 hp hm0 k3'
      generalize upd HF p (HO.tup [.ref b9, x3']) = HG0 at *
      have v1 : Same HG0 (upd HG0 m1 (.tup [])) := same_new hm1
      have o1 : Dt K (upd HG0 m1 (.tup [])) (.ref m1) (.tuple []) := .tup (SqT.of upd_same) .nil
      generalize upd HG0 m1 (HO.tup []) = HG1 at *
      have v2 : Same HG1 (upd HG1 m2 (.tup [])) := same_new hm2
      have o2 : Dt K (upd HG1 m2 (.tup [])) (.ref m2) (.tuple []) := .tup (SqT.of upd_same) .nil
      generalize upd HG1 m2 (HO.tup []) = HG2 at *
      have v3 : Same HG2 (upd HG2 m3 (.tup [.ref m1, .ref m2])) := same_new hm3
      have o3 : Dt K (upd HG2 m3 (.tup [.ref m1, .ref m2])) (.ref m3) (.tuple [.tuple [], .tuple []]) := Dt.mk2 hm3 (o1.same v2) o2
      have v13 := (v1.trans v2).trans v3
      refine ⟨.ref p, .ref m3, .tuple [.tuple [], .tuple []], rfl, (o0.same v13).dp _ _, o3.dp _ _, by decide, by decide, fun HH sH => ⟨true, rfl, iteT ?_⟩⟩
      have w15 := (v0.trans v13).trans sH
      refine vTx rfl (Same.seqT w15 hs9') (atI_nat (j := 0) rfl) ⟨_, rfl, pw, _, _, _, rfl, rfl, SqL.of (w15 _ _ hpw9'), atI_nat (j := 1) rfl, _, rfl, _, _, rfl, rfl, .inl ⟨by decide, by decide⟩, _, rfl, _, _, rfl, rfl, _, rfl, ?_⟩
      exact ⟨w1, 12 * many + last, x1', .ref p7, i, by rw [← em]; first | done | rfl, k1'.same w15, dI9'.same w15, ex, fun H' _ => q H'⟩
  · have hi : 200 < 12 * many + last := by
      refine Classical.byContradiction fun no => ?_
      have fc := fC.mpr no
      rcases alt with ⟨rfl, rfl, rfl⟩ | ⟨rfl, rfl, rfl⟩
      · rcases h with h | ⟨x, hx, hf⟩
        · exact h (fI 1).2
        · rcases List.mem_cons.mp hx with rfl | hx
          · exact hf (fI 2).2
          · rw [List.mem_singleton.mp hx] at hf; exact hf fc
      · rcases h with h | ⟨x, hx, hf⟩
        · exact h fc
        · cases hx
    refine ⟨true, T.eL, fun _ a ha => ?_, fun q => nomatch q⟩
    rw [decide_eq_true hi]
    exact ⟨_, rfl, true, rfl, iteT ⟨_, rfl, .ref CP, .ref CP, true, CL, rfl, fun u ru => ru, rfl, rfl, T.cE, T.kP, q _⟩⟩
end
end PK
set_option maxHeartbeats 0
namespace PK
open PySem PySem.Spec PyProof.Rows L2
/-! the law -/
def spLaw (K : PySem.W.Frag) : Sp := fun vs H Q _ => ∃ (a : Addr) (ns : List Int), vs = [.ref a] ∧ SqL K H a (ns.map V.int) ∧ ns.length ≤ 63 ∧ ∀ H', Q (.bl true) H'
theorem slim_all : ∀ {ds : List PyData}, (∀ d ∈ ds, slim d = true) → slimAll ds = true
  | [], _ => by unfold slimAll; rfl
  | d :: r, h => by
    unfold slimAll
    rw [h d List.mem_cons_self, slim_all fun x hx => h x (List.mem_cons_of_mem _ hx)]; rfl
theorem slim_str (x : Str) : slim (.str x) = true := by unfold slim; rfl
theorem slim_int (x : Int) : slim (.int x) = true := by unfold slim; rfl
theorem slim_tup {ds : List PyData} (h1 : ds.length ≤ 1000) (h : ∀ d ∈ ds, slim d = true) : slim (.tuple ds) = true := by
  unfold slim
  rw [decide_eq_true h1, slim_all h]; rfl
theorem slim_two {a b : PyData} (h1 : slim a = true) (h2 : slim b = true) : slim (.tuple [a, b]) = true := slim_tup (by show 2 ≤ 1000; decide) fun d hd => by
  rcases List.mem_cons.mp hd with rfl | hd
  · exact h1
  · rw [List.mem_singleton.mp hd]; exact h2
theorem tm_depthF {t : Tm} : t.d.depth ≤ 3 * t.ht := by
  induction t using Tm.ind with
  | h t ih =>
    have hpos := t.ht_pos
    cases t with
    | node c ts =>
      unfold Tm.d
      rw [Tm.ds_map]
      have : PyData.depthAll (ts.map Tm.d) ≤ 3 * (Tm.node c ts).ht - 3 := depth_le fun d hd => by
        obtain ⟨k, hk, rfl⟩ := List.mem_map.mp hd
        have h1 := ih k hk
        have h2 := Tm.ht_kid (t := .node c ts) hk
        omega
      show max 0 (max 0 (max (PyData.depthAll (ts.map Tm.d) + 1) 0)) + 1 ≤ _
      omega
    | map es =>
      unfold Tm.d
      rw [Tm.es_map]
      have : PyData.depthAll (es.map Tm.ent) ≤ 3 * (Tm.map es).ht - 2 := depth_le fun d hd => by
        obtain ⟨e, he, rfl⟩ := List.mem_map.mp hd
        have hk : e.2 ∈ (Tm.map es).kids := List.mem_map.mpr ⟨e, he, rfl⟩
        have h1 := ih e.2 hk
        have h2 := Tm.ht_kid hk
        unfold Tm.ent
        show max 0 (max e.2.d.depth 0) + 1 ≤ _
        omega
      show max 0 (max (PyData.depthAll (es.map Tm.ent) + 1) 0) + 1 ≤ _
      omega
    | form f ts =>
      unfold Tm.d
      rw [Tm.ds_map]
      have : PyData.depthAll (ts.map Tm.d) ≤ 3 * (Tm.form f ts).ht - 3 := depth_le fun d hd => by
        obtain ⟨k, hk, rfl⟩ := List.mem_map.mp hd
        have h1 := ih k hk
        have h2 := Tm.ht_kid (t := .form f ts) hk
        omega
      show max 0 (PyData.depthAll (ts.map Tm.d)) + 1 ≤ _
      omega
    | int n => unfold Tm.d; show max 0 (max 0 0) + 1 ≤ _; omega
    | name n => unfold Tm.d; show max 0 (max 0 0) + 1 ≤ _; omega
    | addr n => unfold Tm.d; show max 0 (max 0 0) + 1 ≤ _; omega
    | var n => unfold Tm.d; show max 0 (max 0 0) + 1 ≤ _; omega
def kN (t : Tm) : Prop := t.kids.length ≤ 8
theorem slim_kn {t : Tm} (h : Al kN t) : slim t.d = true := by
  induction t using Tm.ind with
  | h t ih =>
    have hl := h.at_
    cases t with
    | node c ts =>
      have hl : ts.length ≤ 8 := hl
      unfold Tm.d
      rw [Tm.ds_map]
      refine slim_tup (by show 3 ≤ 1000; decide) fun d hd => ?_
      rcases List.mem_cons.mp hd with rfl | hd
      · exact slim_str _
      rcases List.mem_cons.mp hd with rfl | hd
      · exact slim_str _
      rw [List.mem_singleton.mp hd]
      refine slim_tup (by rw [List.length_map]; omega) fun d hd => ?_
      obtain ⟨k, hk, rfl⟩ := List.mem_map.mp hd
      exact ih k hk (h.kid hk)
    | map es =>
      unfold Tm.d
      rw [Tm.es_map]
      have lk : es.length ≤ 8 := by have hl : (es.map Prod.snd).length ≤ 8 := hl; rw [List.length_map] at hl; exact hl
      refine slim_two (slim_str _) (slim_tup (by rw [List.length_map]; omega) fun d hd => ?_)
      obtain ⟨e, he, rfl⟩ := List.mem_map.mp hd
      have hk : e.2 ∈ (Tm.map es).kids := List.mem_map.mpr ⟨e, he, rfl⟩
      exact slim_two (slim_str _) (ih e.2 hk (h.kid hk))
    | form f ts =>
      have hl : ts.length ≤ 8 := hl
      unfold Tm.d
      rw [Tm.ds_map]
      refine slim_tup (by rw [List.length_cons, List.length_map]; omega) fun d hd => ?_
      rcases List.mem_cons.mp hd with rfl | hd
      · exact slim_str _
      obtain ⟨k, hk, rfl⟩ := List.mem_map.mp hd
      exact ih k hk (h.kid hk)
    | int n => unfold Tm.d; exact slim_two (slim_str _) (slim_int _)
    | name n => unfold Tm.d; exact slim_two (slim_str _) (slim_str _)
    | addr n => unfold Tm.d; exact slim_two (slim_str _) (slim_int _)
    | var n => unfold Tm.d; exact slim_two (slim_str _) (slim_str _)
theorem Gr_kn {cs : List Con} {ns : List Str} {R : List Rw} (ck : CsOk cs) (ln : ns.length ≤ 8) (A : RnA cs R) : ∀ (t : Tm) (b : Bool), Gr cs ns b t → Al kN (t.trans R) := by
  refine Tm.ind fun t ih b h => ?_
  cases h with
  | atom h =>
    have e : t.trans R = t := by
      rw [Tm.trans_eq]
      cases t <;> first | rfl | exact h.elim
    rw [e]
    exact .mk (by show t.kids.length ≤ 8; rw [h.kids]; exact Nat.zero_le _) fun k hk => by rw [h.kids] at hk; cases hk
  | map h1 h2 h3 h4 =>
    rename_i es
    rw [trans_map]
    refine .mk (by show ((es.map fun e => (e.1, e.2.trans R)).map Prod.snd).length ≤ 8; rw [List.length_map, List.length_map]; omega) fun k hk => ?_
    obtain ⟨z, hz, rfl⟩ := List.mem_map.mp (show k ∈ (es.map fun e => (e.1, e.2.trans R)).map Prod.snd from hk)
    obtain ⟨e, he, rfl⟩ := List.mem_map.mp hz
    exact ih e.2 (List.mem_map.mpr ⟨e, he, rfl⟩) _ (h4 e he)
  | node h1 h2 h3 h4 =>
    rename_i y ts
    obtain ⟨r, hr, en, new, o⟩ := A.cov y h1
    have rp := A.rwp ck
    have er : rowOf R y.nm = some r := by rw [← en]; exact rowOf_mem rp.nd hr
    rw [trans_node er]
    obtain ⟨os, pm, e⟩ := o.fill (ks := ts.map (Tm.trans R)) (by rw [List.length_map, h2])
    rw [e]
    have lo : os.length = ts.length := by rw [pm.length_eq, List.length_range, List.length_map]
    have har := (ck.ok y h1).ar
    have pk := range_perm pm
    refine .mk (by show (os.map fun o => (ts.map (Tm.trans R))[o]?.getD (.int 0)).length ≤ 8; rw [List.length_map]; omega) fun k hk => ?_
    have := pk.mem_iff.mp (show k ∈ os.map fun o => (ts.map (Tm.trans R))[o]?.getD (.int 0) from hk)
    obtain ⟨k2, hk2, rfl⟩ := List.mem_map.mp this
    obtain ⟨i, hi⟩ := List.getElem?_of_mem hk2
    exact ih k2 hk2 _ (h4 i k2 hi)
theorem rn_okR {cs : List Con} {R : List Rw} (ck : CsOk cs) (A : RnA cs R) : okR R := by
  have rp := A.rwp ck
  refine ⟨rp.nd, rp.len, fun r hr => by have := rp.ar r hr; omega, fun r hr => ?_, fun r hr => ?_⟩
  · obtain ⟨x, hx, new, o⟩ := A.con hr
    obtain ⟨os, pm, e⟩ := o.t
    have lo : os.length ≤ 3 := by rw [pm.length_eq, List.length_range]; exact (ck.ok x hx).ar
    rw [e]
    refine .mk ⟨by show (os.map (vAt r.ps)).length ≤ 1000; rw [List.length_map]; omega, fun s z => nomatch z⟩ fun k hk => ?_
    obtain ⟨q, _, rfl⟩ := List.mem_map.mp (show k ∈ os.map (vAt r.ps) from hk)
    unfold vAt
    split
    · rename_i w hw
      exact .mk ⟨Nat.zero_le _, fun s z => by cases z; exact List.mem_of_getElem? hw⟩ fun j hj => by cases hj
    · exact .mk ⟨Nat.zero_le _, fun s z => nomatch z⟩ fun j hj => by cases hj
  · obtain ⟨x, hx, new, o⟩ := A.con hr
    obtain ⟨os, pm, e⟩ := o.t
    exact ⟨new, _, e⟩
/-- the image of a state is small -/
theorem st_small {t : Tm} {ss : List Tm} {os : List Int} (h1 : t.ht ≤ 18) (h2 : ∀ x ∈ ss, x.ht ≤ 18) (k1 : Al kN t) (k2 : ∀ x ∈ ss, Al kN x) (l1 : ss.length ≤ 100) (l2 : os.length ≤ 100) : (stD t ss os).depth < 60 ∧ slim (stD t ss os) = true := by
  unfold stD
  refine ⟨?_, slim_tup (by show 3 ≤ 1000; decide) fun d hd => ?_⟩
  · have d1 : PyData.depthAll (ss.map Tm.d) ≤ 54 := depth_le fun d hd => by
      obtain ⟨x, hx, rfl⟩ := List.mem_map.mp hd
      have := tm_depthF (t := x)
      have := h2 x hx
      omega
    have d2 : PyData.depthAll (os.map PyData.int) ≤ 0 := depth_le fun d hd => by
      obtain ⟨x, hx, rfl⟩ := List.mem_map.mp hd
      exact Nat.le_refl _
    have d3 := tm_depthF (t := t)
    show max t.d.depth (max (PyData.depthAll (ss.map Tm.d) + 1) (max (PyData.depthAll (os.map PyData.int) + 1) 0)) + 1 < 60
    omega
  · rcases List.mem_cons.mp hd with rfl | hd
    · exact slim_kn k1
    rcases List.mem_cons.mp hd with rfl | hd
    · exact slim_tup (by rw [List.length_map]; omega) fun d hd => by
        obtain ⟨x, hx, rfl⟩ := List.mem_map.mp hd
        exact slim_kn (k2 x hx)
    · rw [List.mem_singleton.mp hd]
      exact slim_tup (by rw [List.length_map]; omega) fun d hd => by
        obtain ⟨x, hx, rfl⟩ := List.mem_map.mp hd
        exact slim_int x
section
variable {P : Program} {w : World} {K : PySem.W.Frag} {mg : Str → Option Value} {base : Heap} {aF CL CP : Addr}
abbrev s_law : Stmt := topS 56
theorem sc_law : FnScope ["script", "pool", "source", "kept", "rows", "k", "store", "out", "state"] ["script"] (defScope s_law) := ⟨rfl, rfl, rfl, by decide +kernel, rfl, by decide +kernel, by decide +kernel⟩
-- slots: 0:script 1:pool(cell) 2:source(cell) 3:kept 4:rows 5:k 6:store 7:out 8:state
theorem ok_law {f : Addr} {fd : FuncData} (F : Fun K "law" "law" s_law f fd) (T : TxtW K mg aF CL CP) (C_law_pool : C8.Cal P w K mg base 1 "_law_pool" (spPool K) []) (C_law_take : C8.Cal P w K mg base 2 "_law_take" (spTake 2) []) (C_law_language : C8.Cal P w K mg base 21 "_law_language" (spLang K) []) (C_law_renamed : C8.Cal P w K mg base 31 "_law_renamed" (spRen K) []) (C_law_longer : C8.Cal P w K mg base 31 "_law_longer" (spLong K) []) (C_law_ground : C8.Cal P w K mg base 29 "_law_ground" (spGr K 4) []) (C_law_number : C8.Cal P w K mg base 3 "_law_number" spNum []) (C_law_same : C8.Cal P w K mg base 60 "_law_same" (spSame K 60) []) (C_law_image : C8.Cal P w K mg base 31 "_law_image" (spImg K) []) (C_translate_state : CalR P w K mg base 5 "translate_state" (spTst K CL)) (C_law_chain : C8.Cal P w K mg base 62 "_law_chain" spTrue []) : FnOk P w K mg base CX0 63 f fd ["script"] (spLaw K) := by
  refine F.ok sc_law (fun vs H Q E h => ?_) (fun cdv A outer s H vs Q E hr h => ?_)
  · obtain ⟨_, _, rfl, _⟩ := h
    rfl
  obtain ⟨sa, ns0, rfl, hS, hlen, q⟩ := h
  refine ⟨_, (pss_cons (ps_set (i := 1) sc_law.nd rfl (Or.inr rfl) (C8.pe_c C_law_pool hr (by decide) rfl (pa_cons (pv 0) pa_nil)))
    (pss_cons (ps_set (i := 2) sc_law.nd rfl (Or.inr rfl) (C8.pe_c C_law_language hr (by decide) rfl (pa_cons (pv 1) pa_nil)))
    (pss_cons (ps_set (i := 3) sc_law.nd rfl (Or.inl rfl) (C8.pe_c C_law_renamed hr (by decide) rfl (pa_cons (pv 1) (pa_cons (pv 2) pa_nil))))
    (pss_cons (ps_set (i := 4) sc_law.nd rfl (Or.inl rfl) (pe_ix ix_tup (pv 3) pe_int (fun _ _ => rfl)))
    (C8.pss_cut (ps_if (pt_cmpR op_eq (C8.pe_c C_law_take hr (by decide) rfl (pa_cons (pv 1) (pa_cons pe_int pa_nil))) pe_int (nomark _)) (pss_one (ps_set (i := 4) sc_law.nd rfl (Or.inl rfl) (pe_ix ix_tup (C8.pe_c C_law_longer hr (by decide) rfl (pa_cons (pv 1) (pa_cons (pv 2) (pa_cons (pe_ix ix_tup (pv 3) pe_int (fun _ _ => rfl)) (pa_cons (pv 4) pa_nil))))) pe_int (fun _ _ => rfl)))) pss_nil)
    (pss_cons (ps_set (i := 6) sc_law.nd rfl (Or.inl rfl) (pe_callTy call_tuple_of (by rfl) T.z_tuple (by decide +kernel) (pa_cons (pe_lc (own := [("k", 5)]) (g := (gName 5)) (tt := tYes) (by rfl) sc_law.nd (pi_range1 (by rfl) T.z_range (pa_cons (C8.pe_c C_law_take hr (by decide) rfl (pa_cons (pv 1) (pa_cons pe_int pa_nil))) pa_nil)) (blkOk_by (N := ["script", "pool", "source", "kept", "rows", "k", "store", "out", "state"]) (sc := defScope s_law) (by decide +kernel)) (fun _ _ _ _ _ => (pg_name (i := 5) sc_law.nd rfl (Or.inl rfl))) (fun _ _ _ _ _ => pts_nil) (fun _ _ _ _ _ => (C8.pe_c C_law_ground hr (by decide) rfl (pa_cons (pv 1) (pa_cons (pv 2) (pa_cons pe_bl (pa_cons pe_int pa_nil))))))) pa_nil)))
    (pss_cons (ps_set (i := 7) sc_law.nd rfl (Or.inl rfl) (pe_callTy call_tuple_of (by rfl) T.z_tuple (by decide +kernel) (pa_cons (pe_lc (own := [("k", 5)]) (g := (gName 5)) (tt := tYes) (by rfl) sc_law.nd (pi_range1 (by rfl) T.z_range (pa_cons (C8.pe_c C_law_take hr (by decide) rfl (pa_cons (pv 1) (pa_cons pe_int pa_nil))) pa_nil)) (blkOk_by (N := ["script", "pool", "source", "kept", "rows", "k", "store", "out", "state"]) (sc := defScope s_law) (by decide +kernel)) (fun _ _ _ _ _ => (pg_name (i := 5) sc_law.nd rfl (Or.inl rfl))) (fun _ _ _ _ _ => pts_nil) (fun _ _ _ _ _ => (C8.pe_c C_law_number hr (by decide) rfl (pa_cons (pv 1) pa_nil)))) pa_nil)))
    (pss_cons (ps_set (i := 8) sc_law.nd rfl (Or.inl rfl) (pe_tup (pa_cons (C8.pe_c C_law_ground hr (by decide) rfl (pa_cons (pv 1) (pa_cons (pv 2) (pa_cons pe_bl (pa_cons pe_int pa_nil))))) (pa_cons (pv 6) (pa_cons (pv 7) pa_nil)))))
    (pss_cons (ps_for PassesOwn.never rfl (pi_range1 (by rfl) T.z_range (pa_cons pe_int pa_nil)) (pg_name (i := 5) sc_law.nd rfl (Or.inl rfl)) (pss_one (ps_if (pt_not (pt_val (C8.pe_c C_law_same hr (by decide) rfl (pa_cons (pe_crS C_translate_state takes0 hr (by decide) rfl (pa_cons (pv 4) (pa_cons (pv 8) pa_nil))) (pa_cons (C8.pe_c C_law_image hr (by decide) rfl (pa_cons (pv 4) (pa_cons (pv 8) pa_nil))) pa_nil))))) (pss_one (ps_ret pe_bl)) pss_nil)))
    (pss_one (ps_ret (C8.pe_c C_law_chain hr (by decide) rfl (pa_cons (pv 1) pa_nil))))))))))))), ?_⟩
  have three : ∀ x y z : V, [x, y, z].length ≤ sizeLine := fun x y z => small (by show 3 ≤ _; decide)
  refine ⟨_, rfl, sa, ns0, rfl, hS, hlen, fun H0 l c s0 hl0 P0 => ?_⟩
  refine ⟨_, rfl, l, c, rfl, P0, fun H1 p an cs ns rs x1 hp0 LG NM L => ?_⟩
  have LP1 : LgP K H1 l c p an cs ns rs := ⟨x1.pool, LG, NM, L⟩
  refine ⟨_, rfl, _, rfl, l, c, p, an, cs, ns, rs, rfl, LP1, fun H2 a p' vr ys R rd x2 hs LT dR rn nd lrd => ?_⟩
  have LP2 := LP1.ext x2
  have P2 := x2.pool
  refine vTx rfl hs (atI_nat (j := 1) rfl) ?_
  refine ⟨fun σ H' => ∃ (rv : V) (R' : List Rw), σ = [some (.ref sa), some (.ref l), some (.ref p), some (.ref a), some rv, none, none, none, none] ∧ Ext l c H2 H' ∧ Dt K H' rv (.tuple (R'.map Rw.d)) ∧ RnA cs R', ?_, ?_⟩
  · refine vTake rfl P2 (by decide) (by decide) fun d H3 d0 d1 x3 => ⟨rfl, _, rfl, ite2 (fun _ => ?_) (fun _ => ⟨vr, R, rfl, x3, dR.ext P2 x3, rn.a⟩)⟩
    exact ⟨_, rfl, _, rfl, vTx rfl (x3.seqT P2 hs) (atI_nat (j := 0) rfl) ⟨_, rfl, l, c, p, p', an, an, vr, cs, ns, rs, ys, rd, R, rfl, LP2.ext x3, LT.ext P2 x3, dR.ext P2 x3, rn, nd, fun H4 a' v1 vr' R' x4 hs4 dR4 A4 => ⟨a', _, _, _, rfl, rfl, hs4, atI_nat (j := 1) rfl, vr', R', rfl, x3.trans x4, dR4, A4⟩⟩⟩
  rintro σ H3 ⟨rv, R', rfl, x3, dR3, A⟩
  have LP3 := LP2.ext x3
  have P3 := x3.pool
  -- the store
  refine vTake rfl P3 (by decide) (by decide) fun n1 H4 n10 n11 x4 => ⟨n1, rfl, by omega, by omega, fun D1 hD1 => ?_⟩
  have P4 := x4.pool
  have nD1 := P4.ne hD1
  have LP4 := LP3.ext x4
  refine lc_range (lo := 0) (n := n1.toNat) (fun i H' => ∃ (vs : List V) (ss : List Tm), Ext l c H4 H' ∧ H' D1 = some (.lst vs) ∧ DtAll K H' vs (ss.map Tm.d) ∧ ss.length = i ∧ ∀ t ∈ ss, Gr cs ns true t ∧ t.ht ≤ hG 2 ∧ t.size ≤ sG 2) ⟨[], [], (Ext.refl P4).new P4 hD1, upd_same, .nil, rfl, fun t h => absurd h List.not_mem_nil⟩ ?_ ?_
  · rintro i H5 hi ⟨vs, ss, x5, h5, d5, ls, gs⟩
    refine ⟨rfl, yes_ ⟨_, rfl, _, rfl, l, c, p, an, cs, ns, rs, true, 2, rfl, LP4.ext x5, by decide, fun H6 v t x6 dv g hh hz => ?_⟩⟩
    have h6 := x6.keep _ _ nD1.1 h5
    have lvs : vs.length = ss.length := by rw [d5.lenD, List.length_map]
    refine ⟨vs, h6, smallL (by omega), vs ++ [v], ss ++ [t], (x5.trans x6).upd P4 hD1, upd_same, ?_, by rw [List.length_append, ls]; rfl, fun t2 ht2 => ?_⟩
    · rw [List.map_append]
      exact ((d5.ext x5.pool x6).append (.cons dv .nil)).upd h6
    · rcases List.mem_append.mp ht2 with h | h
      · exact gs t2 h
      · rw [List.mem_singleton.mp h]; exact ⟨g, hh, hz⟩
  rintro H5 ⟨vs, ss, x5, h5, d5, ls, gs⟩
  refine ⟨D1, vs, rfl, .inl ⟨SqL.of h5, fun p1 hp1 => ?_⟩⟩
  have x6 := (Ext.refl x5.pool).new (o := .tup vs) x5.pool hp1
  have dS : Dt K (upd H5 p1 (.tup vs)) (.ref p1) (.tuple (ss.map Tm.d)) := .tup (SqT.of upd_same) (d5.ext x5.pool x6)
  have x46 := x4.trans (x5.trans x6)
  generalize upd H5 p1 (HO.tup vs) = H6 at *
  have LP6 := LP3.ext x46
  have P6 := x46.pool
  -- the outputs
  refine vTake rfl P6 (by decide) (by decide) fun n2 H7 n20 n21 x7 => ⟨n2, rfl, by omega, by omega, fun D2 hD2 => ?_⟩
  have P7 := x7.pool
  have nD2 := P7.ne hD2
  refine lc_range (lo := 0) (n := n2.toNat) (fun i H' => ∃ os : List Int, Ext l c H7 H' ∧ H' D2 = some (.lst (os.map V.int)) ∧ os.length = i) ⟨[], (Ext.refl P7).new P7 hD2, upd_same, rfl⟩ ?_ ?_
  · rintro i H8 hi ⟨os, x8, h8, lo⟩
    refine ⟨rfl, yes_ ⟨_, rfl, l, c, rfl, x8.pool, fun m H9 x9 _ _ => ?_⟩⟩
    have h9 := x9.keep _ _ nD2.1 h8
    exact ⟨_, h9, smallL (by rw [List.length_map]; omega), os ++ [m], (x8.trans x9).upd P7 hD2, by rw [upd_same, List.map_append]; rfl, by rw [List.length_append, lo]; rfl⟩
  rintro H8 ⟨os, x8, h8, lo⟩
  refine ⟨D2, _, rfl, .inl ⟨SqL.of h8, fun p2 hp2 => ?_⟩⟩
  have x9 := (Ext.refl x8.pool).new (o := .tup (os.map V.int)) x8.pool hp2
  have dO : Dt K (upd H8 p2 (.tup (os.map V.int))) (.ref p2) (.tuple (os.map PyData.int)) := .tup (SqT.of upd_same) (DtAll.ints os)
  have x69 := x7.trans (x8.trans x9)
  generalize upd H8 p2 (HO.tup (os.map V.int)) = H9 at *
  have LP9 := LP6.ext x69
  have P9 := x69.pool
  -- the state
  refine ⟨_, rfl, _, rfl, l, c, p, an, cs, ns, rs, false, 3, rfl, LP9, by decide, fun H10 v t x10 dv g hh hz => ⟨_, rfl, _, rfl, three _ _ _, fun ts hts => ?_⟩⟩
  have z10 : Ext l c H10 (upd H10 ts (.tup [v, .ref p1, .ref p2])) := (Ext.refl x10.pool).new x10.pool hts
  have dSt : Dt K (upd H10 ts (.tup [v, .ref p1, .ref p2])) (.ref ts) (stD t ss os) := Dt.mk3 hts dv ((dS.ext P6 x69).ext P9 x10) (dO.ext P9 x10)
  have dRt := ((dR3.ext P3 x46).ext P6 x69).ext P9 (x10.trans z10)
  have xE := x10.trans z10
  generalize upd H10 ts (HO.tup [v, .ref p1, .ref p2]) = HE at *
  have L0 := LP9.ok
  have lns : ns.length ≤ 3 := L0.nl.2
  have rp := A.rwp L0.ck
  have oT := Gr_okT L0.ck (by omega) A.cov _ _ g
  have oS : ∀ x ∈ ss, okT R' x := fun x hx => Gr_okT L0.ck (by omega) A.cov _ _ (gs x hx).1
  have h13 : t.ht ≤ 13 := hh
  have hS9 : ∀ x ∈ ss, x.ht ≤ 9 := fun x hx => (gs x hx).2.1
  have z1 : t.size ≤ 1936 := hz
  have z2 : ∀ x ∈ ss, x.size ≤ 316 := fun x hx => (gs x hx).2.2
  have eT := trans_same L0.ck A t oT
  have eS : ∀ x ∈ ss, (x.trans R').size = x.size ∧ (x.trans R').ht = x.ht := fun x hx => trans_same L0.ck A x (oS x hx)
  have fT : fitT R' t := ⟨by rw [eT.1]; omega, by rw [eT.2]; omega⟩
  have fS : ∀ x ∈ ss, fitT R' x := fun x hx => ⟨by rw [(eS x hx).1]; have := z2 x hx; omega, by rw [(eS x hx).2]; have := hS9 x hx; omega⟩
  have oR : okR R' := rn_okR L0.ck A
  obtain ⟨dep, sl⟩ := st_small (t := t.trans R') (ss := ss.map (Tm.trans R')) (os := os) (by rw [eT.2]; omega) (fun x hx => by obtain ⟨y, hy, rfl⟩ := List.mem_map.mp hx; rw [(eS y hy).2]; have := hS9 y hy; omega) (Gr_kn L0.ck (by omega) A _ _ g) (fun x hx => by obtain ⟨y, hy, rfl⟩ := List.mem_map.mp hx; exact Gr_kn L0.ck (by omega) A _ _ (gs y hy).1) (by rw [List.length_map]; omega) (by omega)
  refine ⟨2, rfl, by decide, by decide, for_range (lo := 0) (n := 2) (fun i σ H' => ∃ o5 : Option V, σ = [some (.ref sa), some (.ref l), some (.ref p), some (.ref a), some rv, o5, some (.ref p1), some (.ref p2), some (.ref ts)] ∧ Same HE H') ⟨_, rfl, Same.refl _⟩ ?_ ?_⟩
  · rintro i σ HF hi ⟨o5, rfl, sF⟩
    refine ⟨_, rfl, _, rfl, rv, .ref ts, R', t, ss, os, rfl, dRt.same sF, dSt.same sF, oR, oT, oS, by omega, fun HA va sA fa fs da => ?_, fun HA sA h => ?_⟩
    · have s2 := sF.trans sA
      refine ⟨_, rfl, _, rfl, rv, .ref ts, R', t, ss, os, rfl, dRt.same s2, rp, dSt.same s2, oT, by omega, fun x hx => ⟨oS x hx, by have := hS9 x hx; omega⟩, by omega, fun HB vb sB db => ?_⟩
      exact ⟨va, vb, _, rfl, (da.same sB).dp _ _, db.dp _ _, dep, sl, fun HC sC => ⟨true, rfl, iteF ⟨_, rfl, (s2.trans sB).trans sC⟩⟩⟩
    · rcases h with h | ⟨x, hx, hf⟩
      · exact h fT
      · exact hf (fS x hx)
  · rintro σ HF ⟨o5, rfl, sF⟩
    exact ⟨_, rfl, l, c, rfl, (xE.same sF).pool, fun H' => q H'⟩
end
end PK
namespace PK
open PySem L2
section
variable {P : Program} {w : World} {K : PySem.W.Frag} {mg : Str → Option Value} {base : Heap}
theorem none_okX {f : Addr} {fd : FuncData} {ps : List Str} {sp : Sp} {k : Nat} (no : ∀ vs H Q E, ¬ sp vs H Q E) : FnOk P w K mg base (L2.CX P w) k f fd ps sp :=
  ⟨fun vs H Q E h => absurd h (no vs H Q E), fun A outer s H args us vs Q E _ _ _ _ h => absurd h (no vs H Q E)⟩
theorem none_ok {f : Addr} {fd : FuncData} {ps : List Str} {sp : Sp} {k : Nat} (no : ∀ vs H Q E, ¬ sp vs H Q E) : FnOk P w K mg base CX0 k f fd ps sp :=
  ⟨fun vs H Q E h => absurd h (no vs H Q E), fun A outer s H args us vs Q E _ _ _ _ h => absurd h (no vs H Q E)⟩
theorem cal_mk {x : Str} {f : Addr} {fd : FuncData} {ps : List Str} {sp : Sp} {k : Nat} (G : FnOk P w K mg base CX0 k f fd ps sp) (m : mg x = some (.ref f)) (kp : PySem.W.keepIn K (.ref f) = true) (b : Binds K fd ps []) : C8.Cal P w K mg base k x sp [] :=
  ⟨f, fd, ps, [], G, m, kp, b, .nil⟩
end
theorem exm_self {K : PySem.W.Frag} {S : Addr} (h1 : PySem.W.subIn K (.ref S) (.type "BaseException") = some true) (h2 : PySem.W.isClsIn K S = true) (h3 : PySem.W.typeIn K (.ref S) = some (.type "type")) (h4 : PySem.W.subIn K (.ref S) (.ref S) = some true) :
    PySem.W.exmOne K (.ref S) (.ref S) = some true := by
  have e1 : (PySem.W.subIn K (.ref S) (.type "BaseException") == some true) = true := by rw [h1] <;> rfl
  have e2 : ((PySem.W.clsIn K S).isSome && PySem.W.typeIn K (.ref S) == some (.type "type")) = true := by
    have h2' : (PySem.W.clsIn K S).isSome = true := h2
    rw [h2', h3] <;> rfl
  show (if (PySem.W.subIn K (.ref S) (.type "BaseException") == some true) = true then (if ((PySem.W.clsIn K S).isSome && PySem.W.typeIn K (.ref S) == some (.type "type")) = true then PySem.W.subIn K (.ref S) (.ref S) else none) else none) = some true
  rw [if_pos e1, if_pos e2]
  exact h4
theorem kit_t {K : PySem.W.Frag} {D C : Addr} (h1 : PySem.W.isClsIn K C = true) (h2 : PySem.W.typeIn K (.ref C) = some (.type "type")) (h3 : PySem.W.subIn K (.ref D) (.ref C) = some true) : PySem.W.kitOne K (.ref D) (.ref C) = some true := by
  have h1' : (PySem.W.clsIn K C).isSome = true := h1
  unfold PySem.W.kitOne
  split
  · rfl
  · show (if ((PySem.W.clsIn K C).isSome && PySem.W.typeIn K (.ref C) == some (.type "type")) = true then PySem.W.subIn K (.ref D) (.ref C) else none) = some true
    rw [if_pos (by rw [h1', h2] <;> rfl)]
    exact h3
set_option maxHeartbeats 0 in
theorem all_mk {l : PySem.W.OpenLaw} {w : World} {K : PySem.W.Frag} {h : Heap} {mg : Str → Option Value} {fa f1 f2 f3 f4 f5 f6 f7 f8 f9 f10 f11 f12 f13 f14 f15 f16 f17 f18 f19 f20 f21 f22 f23 f24 f25 f26 f27 f28 f29 f30 f31 f32 f33 f34 f35 f36 f37 f38 f39 f40 f41 f42 f43 f44 f45 f46 f47 : Addr} (X : K.In h) (G : h.Ns mainGlobals mg) (hfa : mg "law" = some (.ref fa))
    {od1 an1 od2 an2 od3 an3 od4 an4 od5 an5 od6 an6 od7 an7 od8 an8 od9 an9 od10 an10 od11 an11 od12 an12 od13 an13 od14 an14 od15 an15 od16 an16 od17 an17 od18 an18 od19 an19 od20 an20 od21 an21 od22 an22 od23 an23 od24 an24 od25 an25 od26 an26 od27 an27 od28 an28 od29 an29 od30 an30 od31 an31 od32 an32 od33 an33 od34 an34 od35 an35 od36 an36 od37 an37 od38 an38 od39 an39 od40 an40 od41 an41 od42 an42 od43 an43 od44 an44 od45 an45 od46 an46 od47 an47 : Option Addr} {sl1 sl2 sl3 sl4 sl5 sl6 sl7 sl8 sl9 sl10 sl11 sl12 sl13 sl14 sl15 sl16 sl17 sl18 sl19 sl20 sl21 sl22 sl23 sl24 sl25 sl26 sl27 sl28 sl29 sl30 sl31 sl32 sl33 sl34 sl35 sl36 sl37 sl38 sl39 sl40 sl41 sl42 sl43 sl44 sl45 sl46 sl47 : Array (Option Value)} {oc1 kV1 dc1 pm1 cd1 ct1 oc2 kV2 dc2 pm2 cd2 ct2 oc3 kV3 dc3 pm3 cd3 ct3 oc4 kV4 dc4 pm4 cd4 ct4 oc5 kV5 dc5 pm5 cd5 ct5 oc6 kV6 dc6 pm6 cd6 ct6 oc7 kV7 dc7 pm7 cd7 ct7 oc8 kV8 dc8 pm8 cd8 ct8 oc9 kV9 dc9 pm9 cd9 ct9 oc10 kV10 dc10 pm10 cd10 ct10 oc11 kV11 dc11 pm11 cd11 ct11 oc12 kV12 dc12 pm12 cd12 ct12 oc13 kV13 dc13 pm13 cd13 ct13 oc14 kV14 dc14 pm14 cd14 ct14 oc15 kV15 dc15 pm15 cd15 ct15 oc16 kV16 dc16 pm16 cd16 ct16 oc17 kV17 dc17 pm17 cd17 ct17 oc18 kV18 dc18 pm18 cd18 ct18 oc19 kV19 dc19 pm19 cd19 ct19 oc20 kV20 dc20 pm20 cd20 ct20 oc21 kV21 dc21 pm21 cd21 ct21 oc22 kV22 dc22 pm22 cd22 ct22 oc23 kV23 dc23 pm23 cd23 ct23 oc24 kV24 dc24 pm24 cd24 ct24 oc25 kV25 dc25 pm25 cd25 ct25 oc26 kV26 dc26 pm26 cd26 ct26 oc27 kV27 dc27 pm27 cd27 ct27 oc28 kV28 dc28 pm28 cd28 ct28 oc29 kV29 dc29 pm29 cd29 ct29 oc30 kV30 dc30 pm30 cd30 ct30 oc31 kV31 dc31 pm31 cd31 ct31 oc32 kV32 dc32 pm32 cd32 ct32 oc33 kV33 dc33 pm33 cd33 ct33 oc34 kV34 dc34 pm34 cd34 ct34 oc35 kV35 dc35 pm35 cd35 ct35 oc36 kV36 dc36 pm36 cd36 ct36 oc37 kV37 dc37 pm37 cd37 ct37 oc38 kV38 dc38 pm38 cd38 ct38 oc39 kV39 dc39 pm39 cd39 ct39 oc40 kV40 dc40 pm40 cd40 ct40 oc41 kV41 dc41 pm41 cd41 ct41 oc42 kV42 dc42 pm42 cd42 ct42 oc43 kV43 dc43 pm43 cd43 ct43 oc44 kV44 dc44 pm44 cd44 ct44 oc45 kV45 dc45 pm45 cd45 ct45 oc46 kV46 dc46 pm46 cd46 ct46 oc47 kV47 dc47 pm47 cd47 ct47 : Value}
    (a1 : PySem.W.nsIn K mainGlobals "children" = some (some (.ref f1))) (l1 : K.lookup f1 = some ⟨oc1, od1, .func (PySem.W.fnOf "children" "children" (defArgs s_children) (defBody s_children) (defScope s_children) .none kV1 dc1 pm1 an1 cd1 ct1), sl1⟩) (c1 : PySem.W.codeIn K cd1 "children" = true) (k1 : PySem.W.keepIn K (.ref f1) = true)
    (a2 : PySem.W.nsIn K mainGlobals "rebuild" = some (some (.ref f2))) (l2 : K.lookup f2 = some ⟨oc2, od2, .func (PySem.W.fnOf "rebuild" "rebuild" (defArgs s_rebuild) (defBody s_rebuild) (defScope s_rebuild) .none kV2 dc2 pm2 an2 cd2 ct2), sl2⟩) (c2 : PySem.W.codeIn K cd2 "rebuild" = true) (k2 : PySem.W.keepIn K (.ref f2) = true)
    (a3 : PySem.W.nsIn K mainGlobals "assembled" = some (some (.ref f3))) (l3 : K.lookup f3 = some ⟨oc3, od3, .func (PySem.W.fnOf "assembled" "assembled" (defArgs s_assembled) (defBody s_assembled) (defScope s_assembled) .none kV3 dc3 pm3 an3 cd3 ct3), sl3⟩) (c3 : PySem.W.codeIn K cd3 "assembled" = true) (k3 : PySem.W.keepIn K (.ref f3) = true)
    (a4 : PySem.W.nsIn K mainGlobals "templates_of" = some (some (.ref f4))) (l4 : K.lookup f4 = some ⟨oc4, od4, .func (PySem.W.fnOf "templates_of" "templates_of" (defArgs s_templates_of) (defBody s_templates_of) (defScope s_templates_of) .none kV4 dc4 pm4 an4 cd4 ct4), sl4⟩) (c4 : PySem.W.codeIn K cd4 "templates_of" = true) (k4 : PySem.W.keepIn K (.ref f4) = true)
    (a5 : PySem.W.nsIn K mainGlobals "translate" = some (some (.ref f5))) (l5 : K.lookup f5 = some ⟨oc5, od5, .func (PySem.W.fnOf "translate" "translate" (defArgs s_translate) (defBody s_translate) (defScope s_translate) .none kV5 dc5 pm5 an5 cd5 ct5), sl5⟩) (c5 : PySem.W.codeIn K cd5 "translate" = true) (k5 : PySem.W.keepIn K (.ref f5) = true)
    (a6 : PySem.W.nsIn K mainGlobals "translated_state" = some (some (.ref f6))) (l6 : K.lookup f6 = some ⟨oc6, od6, .func (PySem.W.fnOf "translated_state" "translated_state" (defArgs s_translated_state) (defBody s_translated_state) (defScope s_translated_state) .none kV6 dc6 pm6 an6 cd6 ct6), sl6⟩) (c6 : PySem.W.codeIn K cd6 "translated_state" = true) (k6 : PySem.W.keepIn K (.ref f6) = true)
    (a7 : PySem.W.nsIn K mainGlobals "translate_state" = some (some (.ref f7))) (l7 : K.lookup f7 = some ⟨oc7, od7, .func (PySem.W.fnOf "translate_state" "translate_state" (defArgs s_translate_state) (defBody s_translate_state) (defScope s_translate_state) .none kV7 dc7 pm7 an7 cd7 ct7), sl7⟩) (c7 : PySem.W.codeIn K cd7 "translate_state" = true) (k7 : PySem.W.keepIn K (.ref f7) = true)
    (a8 : PySem.W.nsIn K mainGlobals "_law_pool" = some (some (.ref f8))) (l8 : K.lookup f8 = some ⟨oc8, od8, .func (PySem.W.fnOf "_law_pool" "_law_pool" (defArgs s_law_pool) (defBody s_law_pool) (defScope s_law_pool) .none kV8 dc8 pm8 an8 cd8 ct8), sl8⟩) (c8 : PySem.W.codeIn K cd8 "_law_pool" = true) (k8 : PySem.W.keepIn K (.ref f8) = true)
    (a9 : PySem.W.nsIn K mainGlobals "_law_take" = some (some (.ref f9))) (l9 : K.lookup f9 = some ⟨oc9, od9, .func (PySem.W.fnOf "_law_take" "_law_take" (defArgs s_law_take) (defBody s_law_take) (defScope s_law_take) .none kV9 dc9 pm9 an9 cd9 ct9), sl9⟩) (c9 : PySem.W.codeIn K cd9 "_law_take" = true) (k9 : PySem.W.keepIn K (.ref f9) = true)
    (a10 : PySem.W.nsIn K mainGlobals "_law_words" = some (some (.ref f10))) (l10 : K.lookup f10 = some ⟨oc10, od10, .func (PySem.W.fnOf "_law_words" "_law_words" (defArgs s_law_words) (defBody s_law_words) (defScope s_law_words) .none kV10 dc10 pm10 an10 cd10 ct10), sl10⟩) (c10 : PySem.W.codeIn K cd10 "_law_words" = true) (k10 : PySem.W.keepIn K (.ref f10) = true)
    (a11 : PySem.W.nsIn K mainGlobals "_law_number" = some (some (.ref f11))) (l11 : K.lookup f11 = some ⟨oc11, od11, .func (PySem.W.fnOf "_law_number" "_law_number" (defArgs s_law_number) (defBody s_law_number) (defScope s_law_number) .none kV11 dc11 pm11 an11 cd11 ct11), sl11⟩) (c11 : PySem.W.codeIn K cd11 "_law_number" = true) (k11 : PySem.W.keepIn K (.ref f11) = true)
    (a12 : PySem.W.nsIn K mainGlobals "_law_atom" = some (some (.ref f12))) (l12 : K.lookup f12 = some ⟨oc12, od12, .func (PySem.W.fnOf "_law_atom" "_law_atom" (defArgs s_law_atom) (defBody s_law_atom) (defScope s_law_atom) .none kV12 dc12 pm12 an12 cd12 ct12), sl12⟩) (c12 : PySem.W.codeIn K cd12 "_law_atom" = true) (k12 : PySem.W.keepIn K (.ref f12) = true)
    (a13 : PySem.W.nsIn K mainGlobals "_law_constructors" = some (some (.ref f13))) (l13 : K.lookup f13 = some ⟨oc13, od13, .func (PySem.W.fnOf "_law_constructors" "_law_constructors" (defArgs s_law_constructors) (defBody s_law_constructors) (defScope s_law_constructors) .none kV13 dc13 pm13 an13 cd13 ct13), sl13⟩) (c13 : PySem.W.codeIn K cd13 "_law_constructors" = true) (k13 : PySem.W.keepIn K (.ref f13) = true)
    (a14 : PySem.W.nsIn K mainGlobals "_law_of_kind" = some (some (.ref f14))) (l14 : K.lookup f14 = some ⟨oc14, od14, .func (PySem.W.fnOf "_law_of_kind" "_law_of_kind" (defArgs s_law_of_kind) (defBody s_law_of_kind) (defScope s_law_of_kind) .none kV14 dc14 pm14 an14 cd14 ct14), sl14⟩) (c14 : PySem.W.codeIn K cd14 "_law_of_kind" = true) (k14 : PySem.W.keepIn K (.ref f14) = true)
    (a15 : PySem.W.nsIn K mainGlobals "_law_pick" = some (some (.ref f15))) (l15 : K.lookup f15 = some ⟨oc15, od15, .func (PySem.W.fnOf "_law_pick" "_law_pick" (defArgs s_law_pick) (defBody s_law_pick) (defScope s_law_pick) .none kV15 dc15 pm15 an15 cd15 ct15), sl15⟩) (c15 : PySem.W.codeIn K cd15 "_law_pick" = true) (k15 : PySem.W.keepIn K (.ref f15) = true)
    (a16 : PySem.W.nsIn K mainGlobals "_law_part" = some (some (.ref f16))) (l16 : K.lookup f16 = some ⟨oc16, od16, .func (PySem.W.fnOf "_law_part" "_law_part" (defArgs s_law_part) (defBody s_law_part) (defScope s_law_part) .none kV16 dc16 pm16 an16 cd16 ct16), sl16⟩) (c16 : PySem.W.codeIn K cd16 "_law_part" = true) (k16 : PySem.W.keepIn K (.ref f16) = true)
    (a17 : PySem.W.nsIn K mainGlobals "_law_pattern" = some (some (.ref f17))) (l17 : K.lookup f17 = some ⟨oc17, od17, .func (PySem.W.fnOf "_law_pattern" "_law_pattern" (defArgs s_law_pattern) (defBody s_law_pattern) (defScope s_law_pattern) .none kV17 dc17 pm17 an17 cd17 ct17), sl17⟩) (c17 : PySem.W.codeIn K cd17 "_law_pattern" = true) (k17 : PySem.W.keepIn K (.ref f17) = true)
    (a18 : PySem.W.nsIn K mainGlobals "_law_operand" = some (some (.ref f18))) (l18 : K.lookup f18 = some ⟨oc18, od18, .func (PySem.W.fnOf "_law_operand" "_law_operand" (defArgs s_law_operand) (defBody s_law_operand) (defScope s_law_operand) .none kV18 dc18 pm18 an18 cd18 ct18), sl18⟩) (c18 : PySem.W.codeIn K cd18 "_law_operand" = true) (k18 : PySem.W.keepIn K (.ref f18) = true)
    (a19 : PySem.W.nsIn K mainGlobals "_law_condition" = some (some (.ref f19))) (l19 : K.lookup f19 = some ⟨oc19, od19, .func (PySem.W.fnOf "_law_condition" "_law_condition" (defArgs s_law_condition) (defBody s_law_condition) (defScope s_law_condition) .none kV19 dc19 pm19 an19 cd19 ct19), sl19⟩) (c19 : PySem.W.codeIn K cd19 "_law_condition" = true) (k19 : PySem.W.keepIn K (.ref f19) = true)
    (a20 : PySem.W.nsIn K mainGlobals "_law_conditions" = some (some (.ref f20))) (l20 : K.lookup f20 = some ⟨oc20, od20, .func (PySem.W.fnOf "_law_conditions" "_law_conditions" (defArgs s_law_conditions) (defBody s_law_conditions) (defScope s_law_conditions) .none kV20 dc20 pm20 an20 cd20 ct20), sl20⟩) (c20 : PySem.W.codeIn K cd20 "_law_conditions" = true) (k20 : PySem.W.keepIn K (.ref f20) = true)
    (a21 : PySem.W.nsIn K mainGlobals "_law_occurs" = some (some (.ref f21))) (l21 : K.lookup f21 = some ⟨oc21, od21, .func (PySem.W.fnOf "_law_occurs" "_law_occurs" (defArgs s_law_occurs) (defBody s_law_occurs) (defScope s_law_occurs) .none kV21 dc21 pm21 an21 cd21 ct21), sl21⟩) (c21 : PySem.W.codeIn K cd21 "_law_occurs" = true) (k21 : PySem.W.keepIn K (.ref f21) = true)
    (a22 : PySem.W.nsIn K mainGlobals "_law_sort" = some (some (.ref f22))) (l22 : K.lookup f22 = some ⟨oc22, od22, .func (PySem.W.fnOf "_law_sort" "_law_sort" (defArgs s_law_sort) (defBody s_law_sort) (defScope s_law_sort) .none kV22 dc22 pm22 an22 cd22 ct22), sl22⟩) (c22 : PySem.W.codeIn K cd22 "_law_sort" = true) (k22 : PySem.W.keepIn K (.ref f22) = true)
    (a23 : PySem.W.nsIn K mainGlobals "_law_of_sort" = some (some (.ref f23))) (l23 : K.lookup f23 = some ⟨oc23, od23, .func (PySem.W.fnOf "_law_of_sort" "_law_of_sort" (defArgs s_law_of_sort) (defBody s_law_of_sort) (defScope s_law_of_sort) .none kV23 dc23 pm23 an23 cd23 ct23), sl23⟩) (c23 : PySem.W.codeIn K cd23 "_law_of_sort" = true) (k23 : PySem.W.keepIn K (.ref f23) = true)
    (a24 : PySem.W.nsIn K mainGlobals "_law_integer" = some (some (.ref f24))) (l24 : K.lookup f24 = some ⟨oc24, od24, .func (PySem.W.fnOf "_law_integer" "_law_integer" (defArgs s_law_integer) (defBody s_law_integer) (defScope s_law_integer) .none kV24 dc24 pm24 an24 cd24 ct24), sl24⟩) (c24 : PySem.W.codeIn K cd24 "_law_integer" = true) (k24 : PySem.W.keepIn K (.ref f24) = true)
    (a25 : PySem.W.nsIn K mainGlobals "_law_map" = some (some (.ref f25))) (l25 : K.lookup f25 = some ⟨oc25, od25, .func (PySem.W.fnOf "_law_map" "_law_map" (defArgs s_law_map) (defBody s_law_map) (defScope s_law_map) .none kV25 dc25 pm25 an25 cd25 ct25), sl25⟩) (c25 : PySem.W.codeIn K cd25 "_law_map" = true) (k25 : PySem.W.keepIn K (.ref f25) = true)
    (a26 : PySem.W.nsIn K mainGlobals "_law_set" = some (some (.ref f26))) (l26 : K.lookup f26 = some ⟨oc26, od26, .func (PySem.W.fnOf "_law_set" "_law_set" (defArgs s_law_set) (defBody s_law_set) (defScope s_law_set) .none kV26 dc26 pm26 an26 cd26 ct26), sl26⟩) (c26 : PySem.W.codeIn K cd26 "_law_set" = true) (k26 : PySem.W.keepIn K (.ref f26) = true)
    (a27 : PySem.W.nsIn K mainGlobals "_law_worth" = some (some (.ref f27))) (l27 : K.lookup f27 = some ⟨oc27, od27, .func (PySem.W.fnOf "_law_worth" "_law_worth" (defArgs s_law_worth) (defBody s_law_worth) (defScope s_law_worth) .none kV27 dc27 pm27 an27 cd27 ct27), sl27⟩) (c27 : PySem.W.codeIn K cd27 "_law_worth" = true) (k27 : PySem.W.keepIn K (.ref f27) = true)
    (a28 : PySem.W.nsIn K mainGlobals "_law_node" = some (some (.ref f28))) (l28 : K.lookup f28 = some ⟨oc28, od28, .func (PySem.W.fnOf "_law_node" "_law_node" (defArgs s_law_node) (defBody s_law_node) (defScope s_law_node) .none kV28 dc28 pm28 an28 cd28 ct28), sl28⟩) (c28 : PySem.W.codeIn K cd28 "_law_node" = true) (k28 : PySem.W.keepIn K (.ref f28) = true)
    (a29 : PySem.W.nsIn K mainGlobals "_law_form" = some (some (.ref f29))) (l29 : K.lookup f29 = some ⟨oc29, od29, .func (PySem.W.fnOf "_law_form" "_law_form" (defArgs s_law_form) (defBody s_law_form) (defScope s_law_form) .none kV29 dc29 pm29 an29 cd29 ct29), sl29⟩) (c29 : PySem.W.codeIn K cd29 "_law_form" = true) (k29 : PySem.W.keepIn K (.ref f29) = true)
    (a30 : PySem.W.nsIn K mainGlobals "_law_action" = some (some (.ref f30))) (l30 : K.lookup f30 = some ⟨oc30, od30, .func (PySem.W.fnOf "_law_action" "_law_action" (defArgs s_law_action) (defBody s_law_action) (defScope s_law_action) .none kV30 dc30 pm30 an30 cd30 ct30), sl30⟩) (c30 : PySem.W.codeIn K cd30 "_law_action" = true) (k30 : PySem.W.keepIn K (.ref f30) = true)
    (a31 : PySem.W.nsIn K mainGlobals "_law_rule" = some (some (.ref f31))) (l31 : K.lookup f31 = some ⟨oc31, od31, .func (PySem.W.fnOf "_law_rule" "_law_rule" (defArgs s_law_rule) (defBody s_law_rule) (defScope s_law_rule) .none kV31 dc31 pm31 an31 cd31 ct31), sl31⟩) (c31 : PySem.W.codeIn K cd31 "_law_rule" = true) (k31 : PySem.W.keepIn K (.ref f31) = true)
    (a32 : PySem.W.nsIn K mainGlobals "_law_language" = some (some (.ref f32))) (l32 : K.lookup f32 = some ⟨oc32, od32, .func (PySem.W.fnOf "_law_language" "_law_language" (defArgs s_law_language) (defBody s_law_language) (defScope s_law_language) .none kV32 dc32 pm32 an32 cd32 ct32), sl32⟩) (c32 : PySem.W.codeIn K cd32 "_law_language" = true) (k32 : PySem.W.keepIn K (.ref f32) = true)
    (a33 : PySem.W.nsIn K mainGlobals "_law_own" = some (some (.ref f33))) (l33 : K.lookup f33 = some ⟨oc33, od33, .func (PySem.W.fnOf "_law_own" "_law_own" (defArgs s_law_own) (defBody s_law_own) (defScope s_law_own) .none kV33 dc33 pm33 an33 cd33 ct33), sl33⟩) (c33 : PySem.W.codeIn K cd33 "_law_own" = true) (k33 : PySem.W.keepIn K (.ref f33) = true)
    (a34 : PySem.W.nsIn K mainGlobals "_law_ground" = some (some (.ref f34))) (l34 : K.lookup f34 = some ⟨oc34, od34, .func (PySem.W.fnOf "_law_ground" "_law_ground" (defArgs s_law_ground) (defBody s_law_ground) (defScope s_law_ground) .none kV34 dc34 pm34 an34 cd34 ct34), sl34⟩) (c34 : PySem.W.codeIn K cd34 "_law_ground" = true) (k34 : PySem.W.keepIn K (.ref f34) = true)
    (a35 : PySem.W.nsIn K mainGlobals "_law_filled" = some (some (.ref f35))) (l35 : K.lookup f35 = some ⟨oc35, od35, .func (PySem.W.fnOf "_law_filled" "_law_filled" (defArgs s_law_filled) (defBody s_law_filled) (defScope s_law_filled) .none kV35 dc35 pm35 an35 cd35 ct35), sl35⟩) (c35 : PySem.W.codeIn K cd35 "_law_filled" = true) (k35 : PySem.W.keepIn K (.ref f35) = true)
    (a36 : PySem.W.nsIn K mainGlobals "_law_put" = some (some (.ref f36))) (l36 : K.lookup f36 = some ⟨oc36, od36, .func (PySem.W.fnOf "_law_put" "_law_put" (defArgs s_law_put) (defBody s_law_put) (defScope s_law_put) .none kV36 dc36 pm36 an36 cd36 ct36), sl36⟩) (c36 : PySem.W.codeIn K cd36 "_law_put" = true) (k36 : PySem.W.keepIn K (.ref f36) = true)
    (a37 : PySem.W.nsIn K mainGlobals "_law_templated" = some (some (.ref f37))) (l37 : K.lookup f37 = some ⟨oc37, od37, .func (PySem.W.fnOf "_law_templated" "_law_templated" (defArgs s_law_templated) (defBody s_law_templated) (defScope s_law_templated) .none kV37 dc37 pm37 an37 cd37 ct37), sl37⟩) (c37 : PySem.W.codeIn K cd37 "_law_templated" = true) (k37 : PySem.W.keepIn K (.ref f37) = true)
    (a38 : PySem.W.nsIn K mainGlobals "_law_translate" = some (some (.ref f38))) (l38 : K.lookup f38 = some ⟨oc38, od38, .func (PySem.W.fnOf "_law_translate" "_law_translate" (defArgs s_law_translate) (defBody s_law_translate) (defScope s_law_translate) .none kV38 dc38 pm38 an38 cd38 ct38), sl38⟩) (c38 : PySem.W.codeIn K cd38 "_law_translate" = true) (k38 : PySem.W.keepIn K (.ref f38) = true)
    (a39 : PySem.W.nsIn K mainGlobals "_law_mixed" = some (some (.ref f39))) (l39 : K.lookup f39 = some ⟨oc39, od39, .func (PySem.W.fnOf "_law_mixed" "_law_mixed" (defArgs s_law_mixed) (defBody s_law_mixed) (defScope s_law_mixed) .none kV39 dc39 pm39 an39 cd39 ct39), sl39⟩) (c39 : PySem.W.codeIn K cd39 "_law_mixed" = true) (k39 : PySem.W.keepIn K (.ref f39) = true)
    (a40 : PySem.W.nsIn K mainGlobals "_law_renamed" = some (some (.ref f40))) (l40 : K.lookup f40 = some ⟨oc40, od40, .func (PySem.W.fnOf "_law_renamed" "_law_renamed" (defArgs s_law_renamed) (defBody s_law_renamed) (defScope s_law_renamed) .none kV40 dc40 pm40 an40 cd40 ct40), sl40⟩) (c40 : PySem.W.codeIn K cd40 "_law_renamed" = true) (k40 : PySem.W.keepIn K (.ref f40) = true)
    (a41 : PySem.W.nsIn K mainGlobals "_law_longer" = some (some (.ref f41))) (l41 : K.lookup f41 = some ⟨oc41, od41, .func (PySem.W.fnOf "_law_longer" "_law_longer" (defArgs s_law_longer) (defBody s_law_longer) (defScope s_law_longer) .none kV41 dc41 pm41 an41 cd41 ct41), sl41⟩) (c41 : PySem.W.codeIn K cd41 "_law_longer" = true) (k41 : PySem.W.keepIn K (.ref f41) = true)
    (a42 : PySem.W.nsIn K mainGlobals "_law_same" = some (some (.ref f42))) (l42 : K.lookup f42 = some ⟨oc42, od42, .func (PySem.W.fnOf "_law_same" "_law_same" (defArgs s_law_same) (defBody s_law_same) (defScope s_law_same) .none kV42 dc42 pm42 an42 cd42 ct42), sl42⟩) (c42 : PySem.W.codeIn K cd42 "_law_same" = true) (k42 : PySem.W.keepIn K (.ref f42) = true)
    (a43 : PySem.W.nsIn K mainGlobals "_law_image" = some (some (.ref f43))) (l43 : K.lookup f43 = some ⟨oc43, od43, .func (PySem.W.fnOf "_law_image" "_law_image" (defArgs s_law_image) (defBody s_law_image) (defScope s_law_image) .none kV43 dc43 pm43 an43 cd43 ct43), sl43⟩) (c43 : PySem.W.codeIn K cd43 "_law_image" = true) (k43 : PySem.W.keepIn K (.ref f43) = true)
    (a44 : PySem.W.nsIn K mainGlobals "_law_nested" = some (some (.ref f44))) (l44 : K.lookup f44 = some ⟨oc44, od44, .func (PySem.W.fnOf "_law_nested" "_law_nested" (defArgs s_law_nested) (defBody s_law_nested) (defScope s_law_nested) .none kV44 dc44 pm44 an44 cd44 ct44), sl44⟩) (c44 : PySem.W.codeIn K cd44 "_law_nested" = true) (k44 : PySem.W.keepIn K (.ref f44) = true)
    (a45 : PySem.W.nsIn K mainGlobals "_law_is_nested" = some (some (.ref f45))) (l45 : K.lookup f45 = some ⟨oc45, od45, .func (PySem.W.fnOf "_law_is_nested" "_law_is_nested" (defArgs s_law_is_nested) (defBody s_law_is_nested) (defScope s_law_is_nested) .none kV45 dc45 pm45 an45 cd45 ct45), sl45⟩) (c45 : PySem.W.codeIn K cd45 "_law_is_nested" = true) (k45 : PySem.W.keepIn K (.ref f45) = true)
    (a46 : PySem.W.nsIn K mainGlobals "_law_chain" = some (some (.ref f46))) (l46 : K.lookup f46 = some ⟨oc46, od46, .func (PySem.W.fnOf "_law_chain" "_law_chain" (defArgs s_law_chain) (defBody s_law_chain) (defScope s_law_chain) .none kV46 dc46 pm46 an46 cd46 ct46), sl46⟩) (c46 : PySem.W.codeIn K cd46 "_law_chain" = true) (k46 : PySem.W.keepIn K (.ref f46) = true)
    (a47 : PySem.W.nsIn K mainGlobals "law" = some (some (.ref f47))) (l47 : K.lookup f47 = some ⟨oc47, od47, .func (PySem.W.fnOf "law" "law" (defArgs s_law) (defBody s_law) (defScope s_law) .none kV47 dc47 pm47 an47 cd47 ct47), sl47⟩) (c47 : PySem.W.codeIn K cd47 "law" = true) (k47 : PySem.W.keepIn K (.ref f47) = true)
    (z_len : PySem.W.nsIn K mainGlobals "len" = some none) (z_int : PySem.W.nsIn K mainGlobals "int" = some none) (z_range : PySem.W.nsIn K mainGlobals "range" = some none) (z_min : PySem.W.nsIn K mainGlobals "min" = some none) (z_str : PySem.W.nsIn K mainGlobals "str" = some none) (z_tuple : PySem.W.nsIn K mainGlobals "tuple" = some none) (z_sorted : PySem.W.nsIn K mainGlobals "sorted" = some none) (z_isinstance : PySem.W.nsIn K mainGlobals "isinstance" = some none) (z_any : PySem.W.nsIn K mainGlobals "any" = some none) (z_all : PySem.W.nsIn K mainGlobals "all" = some none) (z_list : PySem.W.nsIn K mainGlobals "list" = some none) (z_bool : PySem.W.nsIn K mainGlobals "bool" = some none) (z_zip : PySem.W.nsIn K mainGlobals "zip" = some none) (z_reversed : PySem.W.nsIn K mainGlobals "reversed" = some none) (z_dict : PySem.W.nsIn K mainGlobals "dict" = some none) (z_sum : PySem.W.nsIn K mainGlobals "sum" = some none)
    (yi0 : ∃ t, mg "MOST_PARTS" = some (.int 4000 t))
    (yi1 : ∃ t, mg "MOST_NESTED" = some (.int 200 t))
    {aF : Addr} (gtaF : PySem.W.nsIn K mainGlobals "_FORMS" = some (some (.ref aF))) (yqaF : ∀ H, SqT K H aF [V.str "get", V.str "set", V.str "plus", V.str "minus"])
    {CL CP : Addr}
    (aCL : PySem.W.nsIn K mainGlobals "TooLarge" = some (some (.ref CL)))
    (aCP : PySem.W.nsIn K mainGlobals "PassError" = some (some (.ref CP)))
    (xL : PySem.W.excIn K CL [.type "ValueError", .type "Exception", .type "BaseException", .type "object"] "ValueError.__new__" = true)
    (kL : PySem.W.keepIn K (.ref CL) = true)
    (bL : PySem.W.subIn K (.ref CL) (.type "BaseException") = some true)
    (tL : PySem.W.typeIn K (.ref CL) = some (.type "type"))
    (iL : PySem.W.isClsIn K CL = true)
    (sL : PySem.W.subIn K (.ref CL) (.ref CL) = some true)
    (iP : PySem.W.isClsIn K CP = true)
    (tP : PySem.W.typeIn K (.ref CP) = some (.type "type"))
    (sLP : PySem.W.subIn K (.ref CL) (.ref CP) = some true)
    (gaL : PySem.W.findIn K (.ref CL) "__getattribute__" = some (some (.builtin "BaseException.__getattribute__")))
    (ggL : PySem.W.findIn K (.ref CL) "__getattr__" = some none)
    (hCL : PySem.W.hasDictIn K CL = true)
    (ccL : PySem.W.findIn K (.ref CL) "__class__" = some (some (.builtin "object.__class__")))
    (sp1 : PySem.W.specialIn K (.builtin "object.__class__") "__get__" = some (some (.builtin "getset_descriptor.__get__")))
    (sp2 : PySem.W.takesIn K (.builtin "object.__class__") = some true)
    (moL : PySem.W.mroIn K CL (.type "object") = some true) :
    ∃ fd : FuncData, (∀ (s : Shared) (v : Value), BindsTo s fd ⟨[v], []⟩ [("script", v)]) ∧ ∀ base : Heap, K.In base → base.Ns mainGlobals mg → FnOk l.prog w K mg base CX0 63 fa fd ["script"] (spLaw K) := by
  have e := hfa.symm.trans (PySem.W.mg_of X G a47)
  cases e
  have F1 := fun_mk (st := s_children) l1 c1 k1
  have b1 := F1.binds (ps := ["term"]) fun _ _ _ _ _ _ us hl => match us, hl with | [_], _ => rfl
  have m1 := PySem.W.mg_of X G a1
  have F2 := fun_mk (st := s_rebuild) l2 c2 k2
  have b2 := F2.binds (ps := ["term", "parts"]) fun _ _ _ _ _ _ us hl => match us, hl with | [_, _], _ => rfl
  have m2 := PySem.W.mg_of X G a2
  have F3 := fun_mk (st := s_assembled) l3 c3 k3
  have b3 := F3.binds (ps := ["heads"]) fun _ _ _ _ _ _ us hl => match us, hl with | [_], _ => rfl
  have m3 := PySem.W.mg_of X G a3
  have F4 := fun_mk (st := s_templates_of) l4 c4 k4
  have b4 := F4.binds (ps := ["rows"]) fun _ _ _ _ _ _ us hl => match us, hl with | [_], _ => rfl
  have m4 := PySem.W.mg_of X G a4
  have F5 := fun_mk (st := s_translate) l5 c5 k5
  have b5 := F5.binds (ps := ["rows", "term"]) fun _ _ _ _ _ _ us hl => match us, hl with | [_, _], _ => rfl
  have m5 := PySem.W.mg_of X G a5
  have F6 := fun_mk (st := s_translated_state) l6 c6 k6
  have b6 := F6.binds (ps := ["rows", "state"]) fun _ _ _ _ _ _ us hl => match us, hl with | [_, _], _ => rfl
  have m6 := PySem.W.mg_of X G a6
  have F7 := fun_mk (st := s_translate_state) l7 c7 k7
  have b7 := F7.binds (ps := ["rows", "state"]) fun _ _ _ _ _ _ us hl => match us, hl with | [_, _], _ => rfl
  have m7 := PySem.W.mg_of X G a7
  have F8 := fun_mk (st := s_law_pool) l8 c8 k8
  have b8 := F8.binds (ps := ["script"]) fun _ _ _ _ _ _ us hl => match us, hl with | [_], _ => rfl
  have m8 := PySem.W.mg_of X G a8
  have F9 := fun_mk (st := s_law_take) l9 c9 k9
  have b9 := F9.binds (ps := ["pool", "many"]) fun _ _ _ _ _ _ us hl => match us, hl with | [_, _], _ => rfl
  have m9 := PySem.W.mg_of X G a9
  have F10 := fun_mk (st := s_law_words) l10 c10 k10
  have b10 := F10.binds (ps := ["pool", "many"]) fun _ _ _ _ _ _ us hl => match us, hl with | [_, _], _ => rfl
  have m10 := PySem.W.mg_of X G a10
  have F11 := fun_mk (st := s_law_number) l11 c11 k11
  have b11 := F11.binds (ps := ["pool"]) fun _ _ _ _ _ _ us hl => match us, hl with | [_], _ => rfl
  have m11 := PySem.W.mg_of X G a11
  have F12 := fun_mk (st := s_law_atom) l12 c12 k12
  have b12 := F12.binds (ps := ["pool", "names"]) fun _ _ _ _ _ _ us hl => match us, hl with | [_, _], _ => rfl
  have m12 := PySem.W.mg_of X G a12
  have F13 := fun_mk (st := s_law_constructors) l13 c13 k13
  have b13 := F13.binds (ps := ["pool", "words"]) fun _ _ _ _ _ _ us hl => match us, hl with | [_, _], _ => rfl
  have m13 := PySem.W.mg_of X G a13
  have F14 := fun_mk (st := s_law_of_kind) l14 c14 k14
  have b14 := F14.binds (ps := ["box", "kind"]) fun _ _ _ _ _ _ us hl => match us, hl with | [_, _], _ => rfl
  have m14 := PySem.W.mg_of X G a14
  have F15 := fun_mk (st := s_law_pick) l15 c15 k15
  have b15 := F15.binds (ps := ["pool", "rows"]) fun _ _ _ _ _ _ us hl => match us, hl with | [_, _], _ => rfl
  have m15 := PySem.W.mg_of X G a15
  have F16 := fun_mk (st := s_law_part) l16 c16 k16
  have b16 := F16.binds (ps := ["pool", "box", "is_sure", "depth"]) fun _ _ _ _ _ _ us hl => match us, hl with | [_, _, _, _], _ => rfl
  have m16 := PySem.W.mg_of X G a16
  have F17 := fun_mk (st := s_law_pattern) l17 c17 k17
  have b17 := F17.binds (ps := ["pool", "box"]) fun _ _ _ _ _ _ us hl => match us, hl with | [_, _], _ => rfl
  have m17 := PySem.W.mg_of X G a17
  have F18 := fun_mk (st := s_law_operand) l18 c18 k18
  have b18 := F18.binds (ps := ["pool", "box"]) fun _ _ _ _ _ _ us hl => match us, hl with | [_, _], _ => rfl
  have m18 := PySem.W.mg_of X G a18
  have F19 := fun_mk (st := s_law_condition) l19 c19 k19
  have b19 := F19.binds (ps := ["pool", "box"]) fun _ _ _ _ _ _ us hl => match us, hl with | [_, _], _ => rfl
  have m19 := PySem.W.mg_of X G a19
  have F20 := fun_mk (st := s_law_conditions) l20 c20 k20
  have b20 := F20.binds (ps := ["pool", "box"]) fun _ _ _ _ _ _ us hl => match us, hl with | [_, _], _ => rfl
  have m20 := PySem.W.mg_of X G a20
  have F21 := fun_mk (st := s_law_occurs) l21 c21 k21
  have b21 := F21.binds (ps := ["condition", "word"]) fun _ _ _ _ _ _ us hl => match us, hl with | [_, _], _ => rfl
  have m21 := PySem.W.mg_of X G a21
  have F22 := fun_mk (st := s_law_sort) l22 c22 k22
  have b22 := F22.binds (ps := ["box", "word"]) fun _ _ _ _ _ _ us hl => match us, hl with | [_, _], _ => rfl
  have m22 := PySem.W.mg_of X G a22
  have F23 := fun_mk (st := s_law_of_sort) l23 c23 k23
  have b23 := F23.binds (ps := ["box", "sort"]) fun _ _ _ _ _ _ us hl => match us, hl with | [_, _], _ => rfl
  have m23 := PySem.W.mg_of X G a23
  have F24 := fun_mk (st := s_law_integer) l24 c24 k24
  have b24 := F24.binds (ps := ["pool", "box", "depth"]) fun _ _ _ _ _ _ us hl => match us, hl with | [_, _, _], _ => rfl
  have m24 := PySem.W.mg_of X G a24
  have F25 := fun_mk (st := s_law_map) l25 c25 k25
  have b25 := F25.binds (ps := ["pool", "box", "depth"]) fun _ _ _ _ _ _ us hl => match us, hl with | [_, _, _], _ => rfl
  have m25 := PySem.W.mg_of X G a25
  have F26 := fun_mk (st := s_law_set) l26 c26 k26
  have b26 := F26.binds (ps := ["pool", "box", "depth"]) fun _ _ _ _ _ _ us hl => match us, hl with | [_, _, _], _ => rfl
  have m26 := PySem.W.mg_of X G a26
  have F27 := fun_mk (st := s_law_worth) l27 c27 k27
  have b27 := F27.binds (ps := ["pool", "box", "depth"]) fun _ _ _ _ _ _ us hl => match us, hl with | [_, _, _], _ => rfl
  have m27 := PySem.W.mg_of X G a27
  have F28 := fun_mk (st := s_law_node) l28 c28 k28
  have b28 := F28.binds (ps := ["pool", "box", "row", "depth"]) fun _ _ _ _ _ _ us hl => match us, hl with | [_, _, _, _], _ => rfl
  have m28 := PySem.W.mg_of X G a28
  have F29 := fun_mk (st := s_law_form) l29 c29 k29
  have b29 := F29.binds (ps := ["pool", "box", "depth"]) fun _ _ _ _ _ _ us hl => match us, hl with | [_, _, _], _ => rfl
  have m29 := PySem.W.mg_of X G a29
  have F30 := fun_mk (st := s_law_action) l30 c30 k30
  have b30 := F30.binds (ps := ["pool", "box"]) fun _ _ _ _ _ _ us hl => match us, hl with | [_, _], _ => rfl
  have m30 := PySem.W.mg_of X G a30
  have F31 := fun_mk (st := s_law_rule) l31 c31 k31
  have b31 := F31.binds (ps := ["pool", "box", "name", "metas"]) fun _ _ _ _ _ _ us hl => match us, hl with | [_, _, _, _], _ => rfl
  have m31 := PySem.W.mg_of X G a31
  have F32 := fun_mk (st := s_law_language) l32 c32 k32
  have b32 := F32.binds (ps := ["pool"]) fun _ _ _ _ _ _ us hl => match us, hl with | [_], _ => rfl
  have m32 := PySem.W.mg_of X G a32
  have F33 := fun_mk (st := s_law_own) l33 c33 k33
  have b33 := F33.binds (ps := ["rows", "rules", "names"]) fun _ _ _ _ _ _ us hl => match us, hl with | [_, _, _], _ => rfl
  have m33 := PySem.W.mg_of X G a33
  have F34 := fun_mk (st := s_law_ground) l34 c34 k34
  have b34 := F34.binds (ps := ["pool", "language", "is_worth", "depth"]) fun _ _ _ _ _ _ us hl => match us, hl with | [_, _, _, _], _ => rfl
  have m34 := PySem.W.mg_of X G a34
  have F35 := fun_mk (st := s_law_filled) l35 c35 k35
  have b35 := F35.binds (ps := ["pool", "language", "pattern", "depth"]) fun _ _ _ _ _ _ us hl => match us, hl with | [_, _, _, _], _ => rfl
  have m35 := PySem.W.mg_of X G a35
  have F36 := fun_mk (st := s_law_put) l36 c36 k36
  have b36 := F36.binds (ps := ["form", "bindings"]) fun _ _ _ _ _ _ us hl => match us, hl with | [_, _], _ => rfl
  have m36 := PySem.W.mg_of X G a36
  have F37 := fun_mk (st := s_law_templated) l37 c37 k37
  have b37 := F37.binds (ps := ["rows", "name", "parts"]) fun _ _ _ _ _ _ us hl => match us, hl with | [_, _, _], _ => rfl
  have m37 := PySem.W.mg_of X G a37
  have F38 := fun_mk (st := s_law_translate) l38 c38 k38
  have b38 := F38.binds (ps := ["rows", "form"]) fun _ _ _ _ _ _ us hl => match us, hl with | [_, _], _ => rfl
  have m38 := PySem.W.mg_of X G a38
  have F39 := fun_mk (st := s_law_mixed) l39 c39 k39
  have b39 := F39.binds (ps := ["pool", "many"]) fun _ _ _ _ _ _ us hl => match us, hl with | [_, _], _ => rfl
  have m39 := PySem.W.mg_of X G a39
  have F40 := fun_mk (st := s_law_renamed) l40 c40 k40
  have b40 := F40.binds (ps := ["pool", "language"]) fun _ _ _ _ _ _ us hl => match us, hl with | [_, _], _ => rfl
  have m40 := PySem.W.mg_of X G a40
  have F41 := fun_mk (st := s_law_longer) l41 c41 k41
  have b41 := F41.binds (ps := ["pool", "source", "target", "rows"]) fun _ _ _ _ _ _ us hl => match us, hl with | [_, _, _, _], _ => rfl
  have m41 := PySem.W.mg_of X G a41
  have F42 := fun_mk (st := s_law_same) l42 c42 k42
  have b42 := F42.binds (ps := ["actual", "due"]) fun _ _ _ _ _ _ us hl => match us, hl with | [_, _], _ => rfl
  have m42 := PySem.W.mg_of X G a42
  have F43 := fun_mk (st := s_law_image) l43 c43 k43
  have b43 := F43.binds (ps := ["rows", "state"]) fun _ _ _ _ _ _ us hl => match us, hl with | [_, _], _ => rfl
  have m43 := PySem.W.mg_of X G a43
  have F44 := fun_mk (st := s_law_nested) l44 c44 k44
  have b44 := F44.binds (ps := ["name", "many", "inner"]) fun _ _ _ _ _ _ us hl => match us, hl with | [_, _, _], _ => rfl
  have m44 := PySem.W.mg_of X G a44
  have F45 := fun_mk (st := s_law_is_nested) l45 c45 k45
  have b45 := F45.binds (ps := ["term", "name", "many", "inner"]) fun _ _ _ _ _ _ us hl => match us, hl with | [_, _, _, _], _ => rfl
  have m45 := PySem.W.mg_of X G a45
  have F46 := fun_mk (st := s_law_chain) l46 c46 k46
  have b46 := F46.binds (ps := ["pool"]) fun _ _ _ _ _ _ us hl => match us, hl with | [_], _ => rfl
  have m46 := PySem.W.mg_of X G a46
  have F47 := fun_mk (st := s_law) l47 c47 k47
  have y_len := PySem.W.mg_none_of X G z_len
  have y_int := PySem.W.mg_none_of X G z_int
  have y_range := PySem.W.mg_none_of X G z_range
  have y_min := PySem.W.mg_none_of X G z_min
  have y_str := PySem.W.mg_none_of X G z_str
  have y_tuple := PySem.W.mg_none_of X G z_tuple
  have y_sorted := PySem.W.mg_none_of X G z_sorted
  have y_isinstance := PySem.W.mg_none_of X G z_isinstance
  have y_any := PySem.W.mg_none_of X G z_any
  have y_all := PySem.W.mg_none_of X G z_all
  have y_list := PySem.W.mg_none_of X G z_list
  have y_bool := PySem.W.mg_none_of X G z_bool
  have y_zip := PySem.W.mg_none_of X G z_zip
  have y_reversed := PySem.W.mg_none_of X G z_reversed
  have y_dict := PySem.W.mg_none_of X G z_dict
  have y_sum := PySem.W.mg_none_of X G z_sum
  have ytaF := PySem.W.mg_of X G gtaF
  refine ⟨PySem.W.fnOf "law" "law" (defArgs s_law) (defBody s_law) (defScope s_law) .none kV47 dc47 pm47 an47 cd47 ct47, fun s v => .of_eq rfl, fun base _ _ => ?_⟩
  have T : Txt K mg := ⟨y_len, y_int, y_range, y_min, y_str, y_tuple, y_sorted, y_isinstance, y_any, y_all, y_list, y_bool⟩
  have TZ : TxtZ K mg aF := ⟨⟨T, ytaF, yqaF⟩, y_zip, y_reversed, y_dict, y_sum⟩
  have TX : TxtX K mg aF CL := ⟨TZ, yi0, yi1, PySem.W.mg_of X G aCL, xL, kL, bL, tL, exm_self bL iL tL sL⟩
  have TW : TxtW K mg aF CL CP := ⟨TX, PySem.W.mg_of X G aCP, ⟨gaL, ggL, bL, hCL, ccL, sp1, sp2, moL⟩, kit_t iP tP sLP⟩
  have take0 : C8.Cal l.prog w K mg base 0 "_law_take" (spTake 0) [] := cal_mk (none_ok (fun vs H Q E h => by obtain ⟨_, _, _, _, _, _, _, _, h, _⟩ := h; omega)) m9 k9 b9
  have take1 : C8.Cal l.prog w K mg base 1 "_law_take" (spTake 1) [] := cal_mk (ok_take F9 T take0) m9 k9 b9
  have take : C8.Cal l.prog w K mg base 2 "_law_take" (spTake 2) [] := cal_mk (ok_take F9 T take1) m9 k9 b9
  have pool : C8.Cal l.prog w K mg base 1 "_law_pool" (spPool K) [] := cal_mk (ok_pool F8) m8 k8 b8
  have kids : C8.Cal l.prog w K mg base 1 "children" (spKids K) [] := cal_mk (ok_kids F1 TZ.toTxtT) m1 k1 b1
  have reb : C8.Cal l.prog w K mg base 1 "rebuild" (spRebuild K) [] := cal_mk (ok_rebuild F2 TZ) m2 k2 b2
  have asm : C8.Cal l.prog w K mg base 2 "assembled" (spAsm K) [] := cal_mk (ok_asm F3 TZ reb) m3 k3 b3
  have tpl : C8.Cal l.prog w K mg base 1 "templates_of" (spTpl K) [] := cal_mk (ok_tpl F4 TZ) m4 k4 b4
  have trans : CalR l.prog w K mg base 3 "translate" (spTrans K CL) := ⟨_, _, _, ok_trans F5 TX kids asm tpl, m5, k5, b5⟩
  have tstd : CalR l.prog w K mg base 4 "translated_state" (spTst K CL) := ⟨_, _, _, ok_tstd F6 TW trans, m6, k6, b6⟩
  have tst : CalR l.prog w K mg base 5 "translate_state" (spTst K CL) := ⟨_, _, _, ok_tst F7 TW tstd, m7, k7, b7⟩
  have words : C8.Cal l.prog w K mg base 3 "_law_words" (spWords) [] := cal_mk (ok_words F10 T take) m10 k10 b10
  have number : C8.Cal l.prog w K mg base 3 "_law_number" (spNum) [] := cal_mk (ok_number F11 take) m11 k11 b11
  have atom : C8.Cal l.prog w K mg base 4 "_law_atom" (spAtom K) [] := cal_mk (ok_atom F12 T take number) m12 k12 b12
  have cons : C8.Cal l.prog w K mg base 3 "_law_constructors" (spCons K) [] := cal_mk (ok_cons F13 T take) m13 k13 b13
  have kind : C8.Cal l.prog w K mg base 1 "_law_of_kind" (spKind K) [] := cal_mk (ok_kind F14) m14 k14 b14
  have pick : C8.Cal l.prog w K mg base 3 "_law_pick" (spPick K) [] := cal_mk (ok_pick F15 T take) m15 k15 b15
  have pickS : C8.Cal l.prog w K mg base 3 "_law_pick" (spPickS K) [] := cal_mk (ok_or (ok_pick F15 T take) (ok_pickT F15 T take)) m15 k15 b15
  have parts : ∀ n : Nat, C8.Cal l.prog w K mg base (n + 4) "_law_part" (spPart K n) [] := fun n => by
    induction n with
    | zero => exact cal_mk (none_ok (fun vs H Q E h => by obtain ⟨_, _, _, _, _, _, _, _, _, _, _, _, _, _, _, _, _, h, _⟩ := h; omega)) m16 k16 b16
    | succ n ih => exact cal_mk (ok_part F16 T take kind pick atom ih) m16 k16 b16
  have pat : C8.Cal l.prog w K mg base 8 "_law_pattern" (spPat K) [] := cal_mk (ok_pattern F17 T kind pick (parts 3)) m17 k17 b17
  have opd : C8.Cal l.prog w K mg base 5 "_law_operand" (spOperand K) [] := cal_mk (ok_operand F18 T take atom pick) m18 k18 b18
  have cnd : C8.Cal l.prog w K mg base 6 "_law_condition" (spCond K) [] := cal_mk (ok_cond F19 take opd pick) m19 k19 b19
  have cnds : C8.Cal l.prog w K mg base 7 "_law_conditions" (spConds K) [] := cal_mk (ok_conds F20 T take cnd) m20 k20 b20
  have occ : C8.Cal l.prog w K mg base 1 "_law_occurs" (spOcc K) [] := cal_mk (ok_occurs F21 T) m21 k21 b21
  have sort : C8.Cal l.prog w K mg base 2 "_law_sort" (spSort K) [] := cal_mk (ok_sort F22 T occ) m22 k22 b22
  have ofs : C8.Cal l.prog w K mg base 1 "_law_of_sort" (spOfs K) [] := cal_mk (ok_ofsort F23 T) m23 k23 b23
  have intz : ∀ n : Nat, C8.Cal l.prog w K mg base (n + 4) "_law_integer" (spFo .int 0 K n) [] := fun n => by
    induction n with
    | zero => exact cal_mk (none_ok (fun vs H Q E h => by obtain ⟨_, _, _, _, _, _, _, _, _, _, _, _, _, _, h, _⟩ := h; omega)) m24 k24 b24
    | succ n ih => exact cal_mk (ok_integer F24 T take ofs pick number ih) m24 k24 b24
  have forms : ∀ n : Nat, C8.Cal l.prog w K mg base (4 * n + 1) "_law_map" (spFo .map 0 K n) [] ∧ C8.Cal l.prog w K mg base (4 * n + 2) "_law_worth" (spFo .worth 0 K n) [] ∧ C8.Cal l.prog w K mg base (4 * n + 3) "_law_form" (spFo .form 0 K n) [] := fun n => by
    induction n with
    | zero => exact ⟨cal_mk (none_ok (fun vs H Q E h => by obtain ⟨_, _, _, _, _, _, _, _, _, _, _, _, _, _, h, _⟩ := h; omega)) m25 k25 b25, cal_mk (none_ok (fun vs H Q E h => by obtain ⟨_, _, _, _, _, _, _, _, _, _, _, _, _, _, h, _⟩ := h; omega)) m27 k27 b27, cal_mk (none_ok (fun vs H Q E h => by obtain ⟨_, _, _, _, _, _, _, _, _, _, _, _, _, _, h, _⟩ := h; omega)) m29 k29 b29⟩
    | succ n ih =>
      obtain ⟨im, iw, fo⟩ := ih
      have m1 : C8.Cal l.prog w K mg base (4 * n + 5) "_law_map" (spFo .map 0 K (n + 1)) [] := cal_mk (ok_map F25 T take ofs pick iw) m25 k25 b25
      have s1 : C8.Cal l.prog w K mg base (4 * n + 5) "_law_set" (spFo .set 1 K (n + 1)) [] := cal_mk (ok_set F26 T take ofs pick im iw) m26 k26 b26
      have n1 : C8.Cal l.prog w K mg base (4 * n + 5) "_law_node" (spNd K (n + 1)) [] := cal_mk (ok_node F28 T iw fo) m28 k28 b28
      have w1 : C8.Cal l.prog w K mg base (4 * n + 6) "_law_worth" (spFo .worth 0 K (n + 1)) [] := cal_mk (ok_worth F27 T take kind pick atom (intz (n + 1)) s1 n1) m27 k27 b27
      exact ⟨m1, w1, cal_mk (ok_form F29 T take pick n1 w1) m29 k29 b29⟩
  have action : C8.Cal l.prog w K mg base 11 "_law_action" (spAct K) [] := cal_mk (ok_action F30 T take ofs pick (intz 2) (forms 2).2.1) m30 k30 b30
  have rule : C8.Cal l.prog w K mg base 20 "_law_rule" (spRule K) [] := cal_mk (ok_rule F31 T pat cnds sort action (forms 4).2.2) m31 k31 b31
  have own : C8.Cal l.prog w K mg base 1 "_law_own" (spOwn K) [] := cal_mk (ok_own F33 T) m33 k33 b33
  have lang : C8.Cal l.prog w K mg base 21 "_law_language" (spLang K) [] := cal_mk (ok_language F32 T take words cons rule own) m32 k32 b32
  have grounds : ∀ n : Nat, C8.Cal l.prog w K mg base (5 + 6 * n) "_law_ground" (spGr K n) [] := fun n => by
    induction n with
    | zero => exact cal_mk (none_ok (fun vs H Q E h => by obtain ⟨_, _, _, _, _, _, _, _, _, _, _, h, _⟩ := h; omega)) m34 k34 b34
    | succ n ih =>
      have fills : ∀ h : Nat, C8.Cal l.prog w K mg base ((5 + 6 * n) + h) "_law_filled" (spFill K n h) [] := fun h => by
        induction h with
        | zero => exact cal_mk (none_ok (fun vs H Q E h => by obtain ⟨_, _, _, _, _, _, _, _, _, _, _, _, _, _, _, h, _⟩ := h; omega)) m35 k35 b35
        | succ h ih2 => exact cal_mk (ok_filled F35 T (Nat.le_trans (by decide : 2 ≤ 5) (Nat.le_add_right 5 (6 * n))) take ih ih2) m35 k35 b35
      exact cal_mk (ok_ground F34 T (Nat.le_trans (by decide : 4 ≤ 5) (Nat.le_add_right 5 (6 * n))) take pickS atom ih (fills 5)) m34 k34 b34
  have puts : ∀ n : Nat, C8.Cal l.prog w K mg base (n) "_law_put" (spPut K n) [] := fun n => by
    induction n with
    | zero => exact cal_mk (none_ok (fun vs H Q E h => by obtain ⟨_, _, t, _, _, _, _, _, _, _, h, _⟩ := h; have := t.ht_pos; omega)) m36 k36 b36
    | succ n ih => exact cal_mk (ok_put F36 T ih) m36 k36 b36
  have templ : C8.Cal l.prog w K mg base 10 "_law_templated" (spTempl K) [] := cal_mk (ok_templ F37 T (puts 9)) m37 k37 b37
  have trls : ∀ n : Nat, C8.Cal l.prog w K mg base (n + 10) "_law_translate" (spTrl K n) [] := fun n => by
    induction n with
    | zero => exact cal_mk (none_ok (fun vs H Q E h => by obtain ⟨_, _, _, _, _, _, h⟩ := h; rcases h with ⟨_, h, _⟩ | ⟨_, h, _⟩ | ⟨_, _, h, _⟩ <;> omega)) m38 k38 b38
    | succ n ih => exact cal_mk (ok_trl F38 T templ ih) m38 k38 b38
  have mixed : C8.Cal l.prog w K mg base 3 "_law_mixed" (spMixed) [] := cal_mk (ok_mixed F39 T take) m39 k39 b39
  have ren : C8.Cal l.prog w K mg base 31 "_law_renamed" (spRen K) [] := cal_mk (ok_renamed F40 T words mixed (trls 20) own) m40 k40 b40
  have long : C8.Cal l.prog w K mg base 31 "_law_longer" (spLong K) [] := cal_mk (ok_longer F41 T words pickS (trls 20) templ own) m41 k41 b41
  have sames : ∀ n : Nat, C8.Cal l.prog w K mg base (n) "_law_same" (spSame K n) [] := fun n => by
    induction n with
    | zero => exact cal_mk (none_ok (fun vs H Q E h => by obtain ⟨_, _, _, _, _, _, h, _⟩ := h; omega)) m42 k42 b42
    | succ n ih => exact cal_mk (ok_same F42 T ih) m42 k42 b42
  have image : C8.Cal l.prog w K mg base 31 "_law_image" (spImg K) [] := cal_mk (ok_image F43 T (trls 20)) m43 k43 b43
  have nested : C8.Cal l.prog w K mg base 1 "_law_nested" (spNest K) [] := cal_mk (ok_nested F44 T) m44 k44 b44
  have isn : C8.Cal l.prog w K mg base 61 "_law_is_nested" (spIsN K) [] := cal_mk (ok_isnested F45 T (sames 60)) m45 k45 b45
  have chain : C8.Cal l.prog w K mg base 62 "_law_chain" (spTrue) [] := cal_mk (ok_chain F46 TW take words number nested isn (sames 60) tst) m46 k46 b46
  exact ok_law F47 TW pool take lang ren long (grounds 4) number (sames 60) image tst chain
set_option maxHeartbeats 0 in
theorem facts {w : World} {K : PySem.W.Frag} {h : Heap} {mg : Str → Option Value} {fa : Addr} (X : K.In h) (G : h.Ns mainGlobals mg) (hfa : mg ("law" : Str) = some (.ref fa)) (c : SaysH hTs hFn K) :
    ∃ fd : FuncData, (∀ (s : Shared) (v : Value), BindsTo s fd ⟨[v], []⟩ [("script", v)]) ∧ ∀ base : Heap, K.In base → base.Ns mainGlobals mg → FnOk PySem.Challenge.rw_passproven_k52_translated_states.prog w K mg base CX0 63 fa fd ["script"] (spLaw K) := by
  have a1 : PySem.W.nsIn K mainGlobals "children" = some (some (.ref 45)) := of_decide_eq_true (c.fact 0 rfl)
  obtain ⟨_, _, _, _, _, _, _, _, _, l1, c1⟩ := c.fnAt 0 (d := ⟨("children", none), "children", "children", defArgs (hTop 5), defBody (hTop 5), defScope (hTop 5)⟩) rfl (ga_at a1)
  have k1 : PySem.W.keepIn K (.ref 45) = true := of_decide_eq_true (c.fact 1 rfl)
  have a2 : PySem.W.nsIn K mainGlobals "rebuild" = some (some (.ref 50)) := of_decide_eq_true (c.fact 2 rfl)
  obtain ⟨_, _, _, _, _, _, _, _, _, l2, c2⟩ := c.fnAt 1 (d := ⟨("rebuild", none), "rebuild", "rebuild", defArgs (hTop 6), defBody (hTop 6), defScope (hTop 6)⟩) rfl (ga_at a2)
  have k2 : PySem.W.keepIn K (.ref 50) = true := of_decide_eq_true (c.fact 3 rfl)
  have a3 : PySem.W.nsIn K mainGlobals "assembled" = some (some (.ref 57)) := of_decide_eq_true (c.fact 4 rfl)
  obtain ⟨_, _, _, _, _, _, _, _, _, l3, c3⟩ := c.fnAt 2 (d := ⟨("assembled", none), "assembled", "assembled", defArgs (hTop 7), defBody (hTop 7), defScope (hTop 7)⟩) rfl (ga_at a3)
  have k3 : PySem.W.keepIn K (.ref 57) = true := of_decide_eq_true (c.fact 5 rfl)
  have a4 : PySem.W.nsIn K mainGlobals "templates_of" = some (some (.ref 62)) := of_decide_eq_true (c.fact 6 rfl)
  obtain ⟨_, _, _, _, _, _, _, _, _, l4, c4⟩ := c.fnAt 3 (d := ⟨("templates_of", none), "templates_of", "templates_of", defArgs (hTop 11), defBody (hTop 11), defScope (hTop 11)⟩) rfl (ga_at a4)
  have k4 : PySem.W.keepIn K (.ref 62) = true := of_decide_eq_true (c.fact 7 rfl)
  have a5 : PySem.W.nsIn K mainGlobals "translate" = some (some (.ref 67)) := of_decide_eq_true (c.fact 8 rfl)
  obtain ⟨_, _, _, _, _, _, _, _, _, l5, c5⟩ := c.fnAt 4 (d := ⟨("translate", none), "translate", "translate", defArgs (hTop 12), defBody (hTop 12), defScope (hTop 12)⟩) rfl (ga_at a5)
  have k5 : PySem.W.keepIn K (.ref 67) = true := of_decide_eq_true (c.fact 9 rfl)
  have a6 : PySem.W.nsIn K mainGlobals "translated_state" = some (some (.ref 72)) := of_decide_eq_true (c.fact 10 rfl)
  obtain ⟨_, _, _, _, _, _, _, _, _, l6, c6⟩ := c.fnAt 5 (d := ⟨("translated_state", none), "translated_state", "translated_state", defArgs (hTop 13), defBody (hTop 13), defScope (hTop 13)⟩) rfl (ga_at a6)
  have k6 : PySem.W.keepIn K (.ref 72) = true := of_decide_eq_true (c.fact 11 rfl)
  have a7 : PySem.W.nsIn K mainGlobals "translate_state" = some (some (.ref 79)) := of_decide_eq_true (c.fact 12 rfl)
  obtain ⟨_, _, _, _, _, _, _, _, _, l7, c7⟩ := c.fnAt 6 (d := ⟨("translate_state", none), "translate_state", "translate_state", defArgs (hTop 15), defBody (hTop 15), defScope (hTop 15)⟩) rfl (ga_at a7)
  have k7 : PySem.W.keepIn K (.ref 79) = true := of_decide_eq_true (c.fact 13 rfl)
  have a8 : PySem.W.nsIn K mainGlobals "_law_pool" = some (some (.ref 84)) := of_decide_eq_true (c.fact 14 rfl)
  obtain ⟨_, _, _, _, _, _, _, _, _, l8, c8⟩ := c.fnAt 7 (d := ⟨("_law_pool", none), "_law_pool", "_law_pool", defArgs (hTop 17), defBody (hTop 17), defScope (hTop 17)⟩) rfl (ga_at a8)
  have k8 : PySem.W.keepIn K (.ref 84) = true := of_decide_eq_true (c.fact 15 rfl)
  have a9 : PySem.W.nsIn K mainGlobals "_law_take" = some (some (.ref 91)) := of_decide_eq_true (c.fact 16 rfl)
  obtain ⟨_, _, _, _, _, _, _, _, _, l9, c9⟩ := c.fnAt 8 (d := ⟨("_law_take", none), "_law_take", "_law_take", defArgs (hTop 18), defBody (hTop 18), defScope (hTop 18)⟩) rfl (ga_at a9)
  have k9 : PySem.W.keepIn K (.ref 91) = true := of_decide_eq_true (c.fact 17 rfl)
  have a10 : PySem.W.nsIn K mainGlobals "_law_words" = some (some (.ref 96)) := of_decide_eq_true (c.fact 18 rfl)
  obtain ⟨_, _, _, _, _, _, _, _, _, l10, c10⟩ := c.fnAt 9 (d := ⟨("_law_words", none), "_law_words", "_law_words", defArgs (hTop 19), defBody (hTop 19), defScope (hTop 19)⟩) rfl (ga_at a10)
  have k10 : PySem.W.keepIn K (.ref 96) = true := of_decide_eq_true (c.fact 19 rfl)
  have a11 : PySem.W.nsIn K mainGlobals "_law_number" = some (some (.ref 103)) := of_decide_eq_true (c.fact 20 rfl)
  obtain ⟨_, _, _, _, _, _, _, _, _, l11, c11⟩ := c.fnAt 10 (d := ⟨("_law_number", none), "_law_number", "_law_number", defArgs (hTop 20), defBody (hTop 20), defScope (hTop 20)⟩) rfl (ga_at a11)
  have k11 : PySem.W.keepIn K (.ref 103) = true := of_decide_eq_true (c.fact 21 rfl)
  have a12 : PySem.W.nsIn K mainGlobals "_law_atom" = some (some (.ref 110)) := of_decide_eq_true (c.fact 22 rfl)
  obtain ⟨_, _, _, _, _, _, _, _, _, l12, c12⟩ := c.fnAt 11 (d := ⟨("_law_atom", none), "_law_atom", "_law_atom", defArgs (hTop 21), defBody (hTop 21), defScope (hTop 21)⟩) rfl (ga_at a12)
  have k12 : PySem.W.keepIn K (.ref 110) = true := of_decide_eq_true (c.fact 23 rfl)
  have a13 : PySem.W.nsIn K mainGlobals "_law_constructors" = some (some (.ref 117)) := of_decide_eq_true (c.fact 24 rfl)
  obtain ⟨_, _, _, _, _, _, _, _, _, l13, c13⟩ := c.fnAt 12 (d := ⟨("_law_constructors", none), "_law_constructors", "_law_constructors", defArgs (hTop 22), defBody (hTop 22), defScope (hTop 22)⟩) rfl (ga_at a13)
  have k13 : PySem.W.keepIn K (.ref 117) = true := of_decide_eq_true (c.fact 25 rfl)
  have a14 : PySem.W.nsIn K mainGlobals "_law_of_kind" = some (some (.ref 122)) := of_decide_eq_true (c.fact 26 rfl)
  obtain ⟨_, _, _, _, _, _, _, _, _, l14, c14⟩ := c.fnAt 13 (d := ⟨("_law_of_kind", none), "_law_of_kind", "_law_of_kind", defArgs (hTop 23), defBody (hTop 23), defScope (hTop 23)⟩) rfl (ga_at a14)
  have k14 : PySem.W.keepIn K (.ref 122) = true := of_decide_eq_true (c.fact 27 rfl)
  have a15 : PySem.W.nsIn K mainGlobals "_law_pick" = some (some (.ref 129)) := of_decide_eq_true (c.fact 28 rfl)
  obtain ⟨_, _, _, _, _, _, _, _, _, l15, c15⟩ := c.fnAt 14 (d := ⟨("_law_pick", none), "_law_pick", "_law_pick", defArgs (hTop 24), defBody (hTop 24), defScope (hTop 24)⟩) rfl (ga_at a15)
  have k15 : PySem.W.keepIn K (.ref 129) = true := of_decide_eq_true (c.fact 29 rfl)
  have a16 : PySem.W.nsIn K mainGlobals "_law_part" = some (some (.ref 136)) := of_decide_eq_true (c.fact 30 rfl)
  obtain ⟨_, _, _, _, _, _, _, _, _, l16, c16⟩ := c.fnAt 15 (d := ⟨("_law_part", none), "_law_part", "_law_part", defArgs (hTop 25), defBody (hTop 25), defScope (hTop 25)⟩) rfl (ga_at a16)
  have k16 : PySem.W.keepIn K (.ref 136) = true := of_decide_eq_true (c.fact 31 rfl)
  have a17 : PySem.W.nsIn K mainGlobals "_law_pattern" = some (some (.ref 143)) := of_decide_eq_true (c.fact 32 rfl)
  obtain ⟨_, _, _, _, _, _, _, _, _, l17, c17⟩ := c.fnAt 16 (d := ⟨("_law_pattern", none), "_law_pattern", "_law_pattern", defArgs (hTop 26), defBody (hTop 26), defScope (hTop 26)⟩) rfl (ga_at a17)
  have k17 : PySem.W.keepIn K (.ref 143) = true := of_decide_eq_true (c.fact 33 rfl)
  have a18 : PySem.W.nsIn K mainGlobals "_law_operand" = some (some (.ref 150)) := of_decide_eq_true (c.fact 34 rfl)
  obtain ⟨_, _, _, _, _, _, _, _, _, l18, c18⟩ := c.fnAt 17 (d := ⟨("_law_operand", none), "_law_operand", "_law_operand", defArgs (hTop 27), defBody (hTop 27), defScope (hTop 27)⟩) rfl (ga_at a18)
  have k18 : PySem.W.keepIn K (.ref 150) = true := of_decide_eq_true (c.fact 35 rfl)
  have a19 : PySem.W.nsIn K mainGlobals "_law_condition" = some (some (.ref 157)) := of_decide_eq_true (c.fact 36 rfl)
  obtain ⟨_, _, _, _, _, _, _, _, _, l19, c19⟩ := c.fnAt 18 (d := ⟨("_law_condition", none), "_law_condition", "_law_condition", defArgs (hTop 28), defBody (hTop 28), defScope (hTop 28)⟩) rfl (ga_at a19)
  have k19 : PySem.W.keepIn K (.ref 157) = true := of_decide_eq_true (c.fact 37 rfl)
  have a20 : PySem.W.nsIn K mainGlobals "_law_conditions" = some (some (.ref 164)) := of_decide_eq_true (c.fact 38 rfl)
  obtain ⟨_, _, _, _, _, _, _, _, _, l20, c20⟩ := c.fnAt 19 (d := ⟨("_law_conditions", none), "_law_conditions", "_law_conditions", defArgs (hTop 29), defBody (hTop 29), defScope (hTop 29)⟩) rfl (ga_at a20)
  have k20 : PySem.W.keepIn K (.ref 164) = true := of_decide_eq_true (c.fact 39 rfl)
  have a21 : PySem.W.nsIn K mainGlobals "_law_occurs" = some (some (.ref 169)) := of_decide_eq_true (c.fact 40 rfl)
  obtain ⟨_, _, _, _, _, _, _, _, _, l21, c21⟩ := c.fnAt 20 (d := ⟨("_law_occurs", none), "_law_occurs", "_law_occurs", defArgs (hTop 30), defBody (hTop 30), defScope (hTop 30)⟩) rfl (ga_at a21)
  have k21 : PySem.W.keepIn K (.ref 169) = true := of_decide_eq_true (c.fact 41 rfl)
  have a22 : PySem.W.nsIn K mainGlobals "_law_sort" = some (some (.ref 174)) := of_decide_eq_true (c.fact 42 rfl)
  obtain ⟨_, _, _, _, _, _, _, _, _, l22, c22⟩ := c.fnAt 21 (d := ⟨("_law_sort", none), "_law_sort", "_law_sort", defArgs (hTop 31), defBody (hTop 31), defScope (hTop 31)⟩) rfl (ga_at a22)
  have k22 : PySem.W.keepIn K (.ref 174) = true := of_decide_eq_true (c.fact 43 rfl)
  have a23 : PySem.W.nsIn K mainGlobals "_law_of_sort" = some (some (.ref 179)) := of_decide_eq_true (c.fact 44 rfl)
  obtain ⟨_, _, _, _, _, _, _, _, _, l23, c23⟩ := c.fnAt 22 (d := ⟨("_law_of_sort", none), "_law_of_sort", "_law_of_sort", defArgs (hTop 32), defBody (hTop 32), defScope (hTop 32)⟩) rfl (ga_at a23)
  have k23 : PySem.W.keepIn K (.ref 179) = true := of_decide_eq_true (c.fact 45 rfl)
  have a24 : PySem.W.nsIn K mainGlobals "_law_integer" = some (some (.ref 186)) := of_decide_eq_true (c.fact 46 rfl)
  obtain ⟨_, _, _, _, _, _, _, _, _, l24, c24⟩ := c.fnAt 23 (d := ⟨("_law_integer", none), "_law_integer", "_law_integer", defArgs (hTop 33), defBody (hTop 33), defScope (hTop 33)⟩) rfl (ga_at a24)
  have k24 : PySem.W.keepIn K (.ref 186) = true := of_decide_eq_true (c.fact 47 rfl)
  have a25 : PySem.W.nsIn K mainGlobals "_law_map" = some (some (.ref 193)) := of_decide_eq_true (c.fact 48 rfl)
  obtain ⟨_, _, _, _, _, _, _, _, _, l25, c25⟩ := c.fnAt 24 (d := ⟨("_law_map", none), "_law_map", "_law_map", defArgs (hTop 34), defBody (hTop 34), defScope (hTop 34)⟩) rfl (ga_at a25)
  have k25 : PySem.W.keepIn K (.ref 193) = true := of_decide_eq_true (c.fact 49 rfl)
  have a26 : PySem.W.nsIn K mainGlobals "_law_set" = some (some (.ref 200)) := of_decide_eq_true (c.fact 50 rfl)
  obtain ⟨_, _, _, _, _, _, _, _, _, l26, c26⟩ := c.fnAt 25 (d := ⟨("_law_set", none), "_law_set", "_law_set", defArgs (hTop 35), defBody (hTop 35), defScope (hTop 35)⟩) rfl (ga_at a26)
  have k26 : PySem.W.keepIn K (.ref 200) = true := of_decide_eq_true (c.fact 51 rfl)
  have a27 : PySem.W.nsIn K mainGlobals "_law_worth" = some (some (.ref 205)) := of_decide_eq_true (c.fact 52 rfl)
  obtain ⟨_, _, _, _, _, _, _, _, _, l27, c27⟩ := c.fnAt 26 (d := ⟨("_law_worth", none), "_law_worth", "_law_worth", defArgs (hTop 36), defBody (hTop 36), defScope (hTop 36)⟩) rfl (ga_at a27)
  have k27 : PySem.W.keepIn K (.ref 205) = true := of_decide_eq_true (c.fact 53 rfl)
  have a28 : PySem.W.nsIn K mainGlobals "_law_node" = some (some (.ref 212)) := of_decide_eq_true (c.fact 54 rfl)
  obtain ⟨_, _, _, _, _, _, _, _, _, l28, c28⟩ := c.fnAt 27 (d := ⟨("_law_node", none), "_law_node", "_law_node", defArgs (hTop 37), defBody (hTop 37), defScope (hTop 37)⟩) rfl (ga_at a28)
  have k28 : PySem.W.keepIn K (.ref 212) = true := of_decide_eq_true (c.fact 55 rfl)
  have a29 : PySem.W.nsIn K mainGlobals "_law_form" = some (some (.ref 219)) := of_decide_eq_true (c.fact 56 rfl)
  obtain ⟨_, _, _, _, _, _, _, _, _, l29, c29⟩ := c.fnAt 28 (d := ⟨("_law_form", none), "_law_form", "_law_form", defArgs (hTop 38), defBody (hTop 38), defScope (hTop 38)⟩) rfl (ga_at a29)
  have k29 : PySem.W.keepIn K (.ref 219) = true := of_decide_eq_true (c.fact 57 rfl)
  have a30 : PySem.W.nsIn K mainGlobals "_law_action" = some (some (.ref 226)) := of_decide_eq_true (c.fact 58 rfl)
  obtain ⟨_, _, _, _, _, _, _, _, _, l30, c30⟩ := c.fnAt 29 (d := ⟨("_law_action", none), "_law_action", "_law_action", defArgs (hTop 39), defBody (hTop 39), defScope (hTop 39)⟩) rfl (ga_at a30)
  have k30 : PySem.W.keepIn K (.ref 226) = true := of_decide_eq_true (c.fact 59 rfl)
  have a31 : PySem.W.nsIn K mainGlobals "_law_rule" = some (some (.ref 233)) := of_decide_eq_true (c.fact 60 rfl)
  obtain ⟨_, _, _, _, _, _, _, _, _, l31, c31⟩ := c.fnAt 30 (d := ⟨("_law_rule", none), "_law_rule", "_law_rule", defArgs (hTop 40), defBody (hTop 40), defScope (hTop 40)⟩) rfl (ga_at a31)
  have k31 : PySem.W.keepIn K (.ref 233) = true := of_decide_eq_true (c.fact 61 rfl)
  have a32 : PySem.W.nsIn K mainGlobals "_law_language" = some (some (.ref 240)) := of_decide_eq_true (c.fact 62 rfl)
  obtain ⟨_, _, _, _, _, _, _, _, _, l32, c32⟩ := c.fnAt 31 (d := ⟨("_law_language", none), "_law_language", "_law_language", defArgs (hTop 41), defBody (hTop 41), defScope (hTop 41)⟩) rfl (ga_at a32)
  have k32 : PySem.W.keepIn K (.ref 240) = true := of_decide_eq_true (c.fact 63 rfl)
  have a33 : PySem.W.nsIn K mainGlobals "_law_own" = some (some (.ref 247)) := of_decide_eq_true (c.fact 64 rfl)
  obtain ⟨_, _, _, _, _, _, _, _, _, l33, c33⟩ := c.fnAt 32 (d := ⟨("_law_own", none), "_law_own", "_law_own", defArgs (hTop 42), defBody (hTop 42), defScope (hTop 42)⟩) rfl (ga_at a33)
  have k33 : PySem.W.keepIn K (.ref 247) = true := of_decide_eq_true (c.fact 65 rfl)
  have a34 : PySem.W.nsIn K mainGlobals "_law_ground" = some (some (.ref 252)) := of_decide_eq_true (c.fact 66 rfl)
  obtain ⟨_, _, _, _, _, _, _, _, _, l34, c34⟩ := c.fnAt 33 (d := ⟨("_law_ground", none), "_law_ground", "_law_ground", defArgs (hTop 43), defBody (hTop 43), defScope (hTop 43)⟩) rfl (ga_at a34)
  have k34 : PySem.W.keepIn K (.ref 252) = true := of_decide_eq_true (c.fact 67 rfl)
  have a35 : PySem.W.nsIn K mainGlobals "_law_filled" = some (some (.ref 257)) := of_decide_eq_true (c.fact 68 rfl)
  obtain ⟨_, _, _, _, _, _, _, _, _, l35, c35⟩ := c.fnAt 34 (d := ⟨("_law_filled", none), "_law_filled", "_law_filled", defArgs (hTop 44), defBody (hTop 44), defScope (hTop 44)⟩) rfl (ga_at a35)
  have k35 : PySem.W.keepIn K (.ref 257) = true := of_decide_eq_true (c.fact 69 rfl)
  have a36 : PySem.W.nsIn K mainGlobals "_law_put" = some (some (.ref 262)) := of_decide_eq_true (c.fact 70 rfl)
  obtain ⟨_, _, _, _, _, _, _, _, _, l36, c36⟩ := c.fnAt 35 (d := ⟨("_law_put", none), "_law_put", "_law_put", defArgs (hTop 45), defBody (hTop 45), defScope (hTop 45)⟩) rfl (ga_at a36)
  have k36 : PySem.W.keepIn K (.ref 262) = true := of_decide_eq_true (c.fact 71 rfl)
  have a37 : PySem.W.nsIn K mainGlobals "_law_templated" = some (some (.ref 267)) := of_decide_eq_true (c.fact 72 rfl)
  obtain ⟨_, _, _, _, _, _, _, _, _, l37, c37⟩ := c.fnAt 36 (d := ⟨("_law_templated", none), "_law_templated", "_law_templated", defArgs (hTop 46), defBody (hTop 46), defScope (hTop 46)⟩) rfl (ga_at a37)
  have k37 : PySem.W.keepIn K (.ref 267) = true := of_decide_eq_true (c.fact 73 rfl)
  have a38 : PySem.W.nsIn K mainGlobals "_law_translate" = some (some (.ref 272)) := of_decide_eq_true (c.fact 74 rfl)
  obtain ⟨_, _, _, _, _, _, _, _, _, l38, c38⟩ := c.fnAt 37 (d := ⟨("_law_translate", none), "_law_translate", "_law_translate", defArgs (hTop 47), defBody (hTop 47), defScope (hTop 47)⟩) rfl (ga_at a38)
  have k38 : PySem.W.keepIn K (.ref 272) = true := of_decide_eq_true (c.fact 75 rfl)
  have a39 : PySem.W.nsIn K mainGlobals "_law_mixed" = some (some (.ref 279)) := of_decide_eq_true (c.fact 76 rfl)
  obtain ⟨_, _, _, _, _, _, _, _, _, l39, c39⟩ := c.fnAt 38 (d := ⟨("_law_mixed", none), "_law_mixed", "_law_mixed", defArgs (hTop 48), defBody (hTop 48), defScope (hTop 48)⟩) rfl (ga_at a39)
  have k39 : PySem.W.keepIn K (.ref 279) = true := of_decide_eq_true (c.fact 77 rfl)
  have a40 : PySem.W.nsIn K mainGlobals "_law_renamed" = some (some (.ref 284)) := of_decide_eq_true (c.fact 78 rfl)
  obtain ⟨_, _, _, _, _, _, _, _, _, l40, c40⟩ := c.fnAt 39 (d := ⟨("_law_renamed", none), "_law_renamed", "_law_renamed", defArgs (hTop 49), defBody (hTop 49), defScope (hTop 49)⟩) rfl (ga_at a40)
  have k40 : PySem.W.keepIn K (.ref 284) = true := of_decide_eq_true (c.fact 79 rfl)
  have a41 : PySem.W.nsIn K mainGlobals "_law_longer" = some (some (.ref 289)) := of_decide_eq_true (c.fact 80 rfl)
  obtain ⟨_, _, _, _, _, _, _, _, _, l41, c41⟩ := c.fnAt 40 (d := ⟨("_law_longer", none), "_law_longer", "_law_longer", defArgs (hTop 50), defBody (hTop 50), defScope (hTop 50)⟩) rfl (ga_at a41)
  have k41 : PySem.W.keepIn K (.ref 289) = true := of_decide_eq_true (c.fact 81 rfl)
  have a42 : PySem.W.nsIn K mainGlobals "_law_same" = some (some (.ref 294)) := of_decide_eq_true (c.fact 82 rfl)
  obtain ⟨_, _, _, _, _, _, _, _, _, l42, c42⟩ := c.fnAt 41 (d := ⟨("_law_same", none), "_law_same", "_law_same", defArgs (hTop 51), defBody (hTop 51), defScope (hTop 51)⟩) rfl (ga_at a42)
  have k42 : PySem.W.keepIn K (.ref 294) = true := of_decide_eq_true (c.fact 83 rfl)
  have a43 : PySem.W.nsIn K mainGlobals "_law_image" = some (some (.ref 299)) := of_decide_eq_true (c.fact 84 rfl)
  obtain ⟨_, _, _, _, _, _, _, _, _, l43, c43⟩ := c.fnAt 42 (d := ⟨("_law_image", none), "_law_image", "_law_image", defArgs (hTop 52), defBody (hTop 52), defScope (hTop 52)⟩) rfl (ga_at a43)
  have k43 : PySem.W.keepIn K (.ref 299) = true := of_decide_eq_true (c.fact 85 rfl)
  have a44 : PySem.W.nsIn K mainGlobals "_law_nested" = some (some (.ref 306)) := of_decide_eq_true (c.fact 86 rfl)
  obtain ⟨_, _, _, _, _, _, _, _, _, l44, c44⟩ := c.fnAt 43 (d := ⟨("_law_nested", none), "_law_nested", "_law_nested", defArgs (hTop 53), defBody (hTop 53), defScope (hTop 53)⟩) rfl (ga_at a44)
  have k44 : PySem.W.keepIn K (.ref 306) = true := of_decide_eq_true (c.fact 87 rfl)
  have a45 : PySem.W.nsIn K mainGlobals "_law_is_nested" = some (some (.ref 313)) := of_decide_eq_true (c.fact 88 rfl)
  obtain ⟨_, _, _, _, _, _, _, _, _, l45, c45⟩ := c.fnAt 44 (d := ⟨("_law_is_nested", none), "_law_is_nested", "_law_is_nested", defArgs (hTop 54), defBody (hTop 54), defScope (hTop 54)⟩) rfl (ga_at a45)
  have k45 : PySem.W.keepIn K (.ref 313) = true := of_decide_eq_true (c.fact 89 rfl)
  have a46 : PySem.W.nsIn K mainGlobals "_law_chain" = some (some (.ref 320)) := of_decide_eq_true (c.fact 90 rfl)
  obtain ⟨_, _, _, _, _, _, _, _, _, l46, c46⟩ := c.fnAt 45 (d := ⟨("_law_chain", none), "_law_chain", "_law_chain", defArgs (hTop 55), defBody (hTop 55), defScope (hTop 55)⟩) rfl (ga_at a46)
  have k46 : PySem.W.keepIn K (.ref 320) = true := of_decide_eq_true (c.fact 91 rfl)
  have a47 : PySem.W.nsIn K mainGlobals "law" = some (some (.ref 325)) := of_decide_eq_true (c.fact 92 rfl)
  obtain ⟨_, _, _, _, _, _, _, _, _, l47, c47⟩ := c.fnAt 46 (d := ⟨("law", none), "law", "law", defArgs (hTop 56), defBody (hTop 56), defScope (hTop 56)⟩) rfl (ga_at a47)
  have k47 : PySem.W.keepIn K (.ref 325) = true := of_decide_eq_true (c.fact 93 rfl)
  have z_len : PySem.W.nsIn K mainGlobals "len" = some none := of_decide_eq_true (c.fact 94 rfl)
  have z_int : PySem.W.nsIn K mainGlobals "int" = some none := of_decide_eq_true (c.fact 95 rfl)
  have z_range : PySem.W.nsIn K mainGlobals "range" = some none := of_decide_eq_true (c.fact 96 rfl)
  have z_min : PySem.W.nsIn K mainGlobals "min" = some none := of_decide_eq_true (c.fact 97 rfl)
  have z_str : PySem.W.nsIn K mainGlobals "str" = some none := of_decide_eq_true (c.fact 98 rfl)
  have z_tuple : PySem.W.nsIn K mainGlobals "tuple" = some none := of_decide_eq_true (c.fact 99 rfl)
  have z_sorted : PySem.W.nsIn K mainGlobals "sorted" = some none := of_decide_eq_true (c.fact 100 rfl)
  have z_isinstance : PySem.W.nsIn K mainGlobals "isinstance" = some none := of_decide_eq_true (c.fact 101 rfl)
  have z_any : PySem.W.nsIn K mainGlobals "any" = some none := of_decide_eq_true (c.fact 102 rfl)
  have z_all : PySem.W.nsIn K mainGlobals "all" = some none := of_decide_eq_true (c.fact 103 rfl)
  have z_list : PySem.W.nsIn K mainGlobals "list" = some none := of_decide_eq_true (c.fact 104 rfl)
  have z_bool : PySem.W.nsIn K mainGlobals "bool" = some none := of_decide_eq_true (c.fact 105 rfl)
  have z_zip : PySem.W.nsIn K mainGlobals "zip" = some none := of_decide_eq_true (c.fact 106 rfl)
  have z_reversed : PySem.W.nsIn K mainGlobals "reversed" = some none := of_decide_eq_true (c.fact 107 rfl)
  have z_dict : PySem.W.nsIn K mainGlobals "dict" = some none := of_decide_eq_true (c.fact 108 rfl)
  have z_sum : PySem.W.nsIn K mainGlobals "sum" = some none := of_decide_eq_true (c.fact 109 rfl)
  have yi0 : ∃ t, mg "MOST_PARTS" = some (.int 4000 t) := He.int_ok X G (x := "MOST_PARTS") (i := 4000) (c.fact 110 rfl)
  have yi1 : ∃ t, mg "MOST_NESTED" = some (.int 200 t) := He.int_ok X G (x := "MOST_NESTED") (i := 200) (c.fact 111 rfl)
  have gtaF : PySem.W.nsIn K mainGlobals "_FORMS" = some (some (.ref 40)) := of_decide_eq_true (c.fact 112 rfl)
  have yqaF : ∀ H, SqT K H 40 [V.str "get", V.str "set", V.str "plus", V.str "minus"] := tup_at (x := "_FORMS") (vs := [.str "get", .str "set", .str "plus", .str "minus"]) (c.fact 113 rfl) gtaF
  have aCL : PySem.W.nsIn K mainGlobals "TooLarge" = some (some (.ref 37)) := of_decide_eq_true (c.fact 114 rfl)
  have aCP : PySem.W.nsIn K mainGlobals "PassError" = some (some (.ref 24)) := of_decide_eq_true (c.fact 115 rfl)
  have xL : PySem.W.excIn K 37 [.type "ValueError", .type "Exception", .type "BaseException", .type "object"] "ValueError.__new__" = true := of_decide_eq_true (c.fact 116 rfl)
  have kL : PySem.W.keepIn K (.ref 37) = true := of_decide_eq_true (c.fact 117 rfl)
  have bL : PySem.W.subIn K (.ref 37) (.type "BaseException") = some true := of_decide_eq_true (c.fact 118 rfl)
  have tL : PySem.W.typeIn K (.ref 37) = some (.type "type") := of_decide_eq_true (c.fact 119 rfl)
  have iL : PySem.W.isClsIn K 37 = true := of_decide_eq_true (c.fact 120 rfl)
  have sL : PySem.W.subIn K (.ref 37) (.ref 37) = some true := of_decide_eq_true (c.fact 121 rfl)
  have iP : PySem.W.isClsIn K 24 = true := of_decide_eq_true (c.fact 122 rfl)
  have tP : PySem.W.typeIn K (.ref 24) = some (.type "type") := of_decide_eq_true (c.fact 123 rfl)
  have sLP : PySem.W.subIn K (.ref 37) (.ref 24) = some true := of_decide_eq_true (c.fact 124 rfl)
  have gaL : PySem.W.findIn K (.ref 37) "__getattribute__" = some (some (.builtin "BaseException.__getattribute__")) := of_decide_eq_true (c.fact 125 rfl)
  have ggL : PySem.W.findIn K (.ref 37) "__getattr__" = some none := of_decide_eq_true (c.fact 126 rfl)
  have hCL : PySem.W.hasDictIn K 37 = true := of_decide_eq_true (c.fact 127 rfl)
  have ccL : PySem.W.findIn K (.ref 37) "__class__" = some (some (.builtin "object.__class__")) := of_decide_eq_true (c.fact 128 rfl)
  have sp1 : PySem.W.specialIn K (.builtin "object.__class__") "__get__" = some (some (.builtin "getset_descriptor.__get__")) := of_decide_eq_true (c.fact 129 rfl)
  have sp2 : PySem.W.takesIn K (.builtin "object.__class__") = some true := of_decide_eq_true (c.fact 130 rfl)
  have moL : PySem.W.mroIn K 37 (.type "object") = some true := of_decide_eq_true (c.fact 131 rfl)
  exact all_mk (l := PySem.Challenge.rw_passproven_k52_translated_states) X G hfa a1 l1 c1 k1 a2 l2 c2 k2 a3 l3 c3 k3 a4 l4 c4 k4 a5 l5 c5 k5 a6 l6 c6 k6 a7 l7 c7 k7 a8 l8 c8 k8 a9 l9 c9 k9 a10 l10 c10 k10 a11 l11 c11 k11 a12 l12 c12 k12 a13 l13 c13 k13 a14 l14 c14 k14 a15 l15 c15 k15 a16 l16 c16 k16 a17 l17 c17 k17 a18 l18 c18 k18 a19 l19 c19 k19 a20 l20 c20 k20 a21 l21 c21 k21 a22 l22 c22 k22 a23 l23 c23 k23 a24 l24 c24 k24 a25 l25 c25 k25 a26 l26 c26 k26 a27 l27 c27 k27 a28 l28 c28 k28 a29 l29 c29 k29 a30 l30 c30 k30 a31 l31 c31 k31 a32 l32 c32 k32 a33 l33 c33 k33 a34 l34 c34 k34 a35 l35 c35 k35 a36 l36 c36 k36 a37 l37 c37 k37 a38 l38 c38 k38 a39 l39 c39 k39 a40 l40 c40 k40 a41 l41 c41 k41 a42 l42 c42 k42 a43 l43 c43 k43 a44 l44 c44 k44 a45 l45 c45 k45 a46 l46 c46 k46 a47 l47 c47 k47 z_len z_int z_range z_min z_str z_tuple z_sorted z_isinstance z_any z_all z_list z_bool z_zip z_reversed z_dict z_sum yi0 yi1 gtaF yqaF aCL aCP xL kL bL tL iL sL iP tP sLP gaL ggL hCL ccL sp1 sp2 moL
end PK
open PySem PySem.W PySem.Calls PyProof.Rows in
set_option maxRecDepth 100000 in
set_option maxHeartbeats 0 in
theorem PySem.Challenge.cw_passproven_k52_translated_states_holds : PySem.Challenge.rw_passproven_k52_translated_states.Holds := by
  w_on; o_law
  refine HandSHeadRun.head_any (r := OpenLaw.row PySem.Challenge.rw_passproven_k52_translated_states) (q := view (OpenLaw.row PySem.Challenge.rw_passproven_k52_translated_states).prog [56]) (H := PK.hk) (ob := PK.obH PK.hAs PK.hTs PK.hFn) (M := 3892) (loose := PK.hNs) (d := HandSHeadRun.topDef (OpenLaw.row PySem.Challenge.rw_passproven_k52_translated_states).prog 56) (kwd := []) PK.obH_eq
    (by kernel_rfl) (fun s => by kernel_rfl) PK.run (by kernel_rfl) (by kernel_rfl) (by kernel_rfl) (by rfl) (by first | assumption | decide +kernel) (by decide +kernel) ⟨rfl, rfl, rfl, rfl, rfl, by decide +kernel⟩ ?hw ?hc
  case hw => w_witness2
  case hc =>
    refine L2.walk_ofE (l := PySem.Challenge.rw_passproven_k52_translated_states) (n := 63) (k := 63) (x := "script") (CX := L2.CX0) rfl (by decide) (by kernel_rfl) ⟨rfl, by decide, by decide⟩ ?F (fun _ _ _ _ z => z)
    intro w mg fa h Y G hmg0
    obtain ⟨K, KX, c⟩ := Y
    have hmg : mg ("law" : PySem.Str) = some (.ref fa) := by
      have e : (HandSHeadRun.topDef (OpenLaw.row PySem.Challenge.rw_passproven_k52_translated_states).prog 56).name = ("law" : PySem.Str) := by kernel_rfl
      rw [← e]
      exact hmg0
    obtain ⟨fd, hb, hF⟩ := PK.facts (w := w) KX G hmg c
    exact ⟨K, fd, PK.spLaw K, KX, hb, fun H a ns hl _ hS => ⟨a, ns, rfl, hS, hl, fun _ => rfl⟩, hF⟩
#print axioms PySem.Challenge.cw_passproven_k52_translated_states_holds
