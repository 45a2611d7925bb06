import PyProof.Rows.All
import Wide.All
import OpenK.AllK
import Wide.FinOn
import Open.SpecLaws
import KE.OsGo
import HandS.ForSpec
import HandS.ForMost
import HandS.Deep
import HandS.TupSets
import HandS.TupLen
import HandS.Rev
import HandS.Conv
import HandS.Walk
import PySem.Challenge.RW_rightnames_s01_answers
set_option Elab.async false
set_option maxRecDepth 100000
set_option maxHeartbeats 4000000
namespace Rn
open PySem PySem.Spec PyProof.Rows L2
theorem hu65 {A : Around} {k : Nat} (hr : Room k A) : A.units + 65 < cLine := by have := hr.un; omega
theorem hu64 {A : Around} {k : Nat} (hr : Room k A) : A.units + 64 < cLine := by have := hr.un; omega
theorem boot_all1 : bootBuiltins "all" = some (.builtin "all") := by decide +kernel
theorem boot_any1 : bootBuiltins "any" = some (.builtin "any") := by decide +kernel
/-- a field list is searched, and changed, from its head -/
theorem lk_here {g : Str} {x : V} {l : List (Str × V)} : ((g, x) :: l).lookup g = some x := by simp [List.lookup]
theorem lk_past {g k : Str} {x : V} {l : List (Str × V)} (ne : (k == g) = false) : ((g, x) :: l).lookup k = l.lookup k := by simp [List.lookup, ne]
theorem put_here {g : Str} {x y : V} {l : List (Str × V)} : putF g y ((g, x) :: l) = (g, y) :: l := by unfold putF; rw [if_pos rfl]
theorem put_past {g k : Str} {x y : V} {l : List (Str × V)} (ne : ¬ g = k) : putF k y ((g, x) :: l) = (g, x) :: putF k y l := by conv => lhs; unfold putF; rw [if_neg ne]
/-- what e gives is a dict (or a list ..): from then on it is only read -/
def tFrz (t : TE) : TE := fun σ H Q => t σ H fun v H1 => ∃ d u, v = .ref d ∧ H1 d = some u ∧ Mut (some u) ∧ ∀ od, Q v (upd H1 d (.frz od u))
theorem pe_frz {X : Cx} {e : Expr} {t : TE} (h : PE X e t) : PE X e (tFrz t) := by
  refine ⟨fun pins s σ H Q I hw => ?_⟩
  refine thn (h.run pins s σ H _ I hw) fun v s1 ⟨x, H1, I2, r, d, u, ex, hd, mu, q⟩ => ?_
  obtain ⟨od, I3⟩ := I2.lock hd mu
  exact ⟨x, _, I3, r, q od⟩
theorem pe_fldK {X : Cx} {K : PySem.W.Frag} {e : Expr} {ta : TE} {f : Str} {pos : Pos} (hK : X.K = K) (he : PE X e ta) (hb : attributeBase e f X.env (eval e X.env) = eval e X.env) : PE X (.Attribute e f pos) (tFld K ta f) := by
  subst hK
  exact pe_fld he hb
/-- len of a set of tuples -/
theorem len_setT {X : Cx} : CallR X (.builtin "len") (fun xs H Q => ∃ a L, xs = [V.ref a] ∧ H a = some (SetTO X.prog X.w a L) ∧ ((L.map (·.2)).Nodup → Q (.int (L.length : Nat)) H)) := by
  intro pins s σ H xs us Q I r h
  obtain ⟨a, L, rfl, ha, q⟩ := h
  rw [Vals.ref1 r]
  have R : SetT0 X.prog X.w s.heap a L := (I.hok a _ ha).1
  obtain ⟨es, ep, t, ⟨o, ho, hex, hd⟩, h2, h3, h4, h5, h6, h7, h8⟩ := R.ex
  have hs : es.size = L.length := by
    rw [← Array.length_toList, h2]
    unfold rowsOf
    rw [List.length_map]
  have hf : t.fits es.size = true := by
    have h1 := h3.sz
    rw [List.length_map] at h1
    unfold SetTable.fits SetTable.fill
    rw [h3.dm, Bool.and_eq_true, beq_iff_eq, decide_eq_true_eq]
    show t.place.size = es.size ∧ t.place.size + 0 ≤ t.mask
    omega
  exact call_len_set ho hex hd hf (by omega) ⟨.int (L.length : Nat), H, I.tok _, ⟨_, by rw [hs]⟩, q h4⟩

/-! ### extension of heaps -/
abbrev Ex := Same
theorem Ex.new {H : Hp} {p : Addr} {o : HO} (h : H p = none) : Same H (upd H p o) := fun a u e => by
  rw [upd_ne (ne_of_none e h)]
  exact e
/-- an object that H does not know may change -/
theorem Ex.mut {H H' : Hp} {p : Addr} {o : HO} (e : Same H H') (h : H p = none) : Same H (upd H' p o) := fun a u ha => by
  rw [upd_ne (ne_of_none ha h)]
  exact e a u ha
theorem Ex.tup {K : PySem.W.Frag} {H H' : Hp} {a : Addr} {xs : List V} (e : Same H H') (h : SqT K H a xs) : SqT K H' a xs := by
  rcases h with (h | ⟨o, h⟩) | h
  · exact .inl (.inl (e _ _ h))
  · exact .inl (.inr ⟨o, e _ _ h⟩)
  · exact .inr h

/-! ### data -/
abbrev Sent := Ut04.Sent
/-- words as values | as a key -/
def vI (f : List Nat) : List V := f.map fun (n : Nat) => V.int (n : Int)
def fK (f : List Nat) : List Key := f.map fun (n : Nat) => Sum.inl (n : Int)
theorem vI_length (f : List Nat) : (vI f).length = f.length := List.length_map _
theorem fK_kV (f : List Nat) : (fK f).map kV = vI f := by
  unfold fK vI
  rw [List.map_map]
  rfl
theorem fK_inj {f g : List Nat} (h : fK f = fK g) : f = g := by
  induction f generalizing g with
  | nil => cases g with
    | nil => rfl
    | cons a g => simp [fK] at h
  | cons a f ih => cases g with
    | nil => simp [fK] at h
    | cons b g =>
      simp only [fK, List.map_cons, List.cons.injEq, Sum.inl.injEq] at h
      rw [ih (show fK f = fK g from h.2), show a = b by omega]
theorem take_more {α : Type} {l : List α} {i : Nat} {x : α} (h : l[i]? = some x) : l.take (i + 1) = l.take i ++ [x] := by
  obtain ⟨hl, e⟩ := List.getElem?_eq_some_iff.mp h
  rw [List.take_succ_eq_append_getElem hl, e]
theorem at_map {α β : Type} {l : List α} {g : α → β} {i : Nat} {y : β} (h : (l.map g)[i]? = some y) : ∃ z, l[i]? = some z ∧ y = g z := by
  rw [List.getElem?_map] at h
  cases e : l[i]? with
  | none =>
    rw [e] at h
    cases h
  | some z =>
    rw [e] at h
    exact ⟨z, rfl, (Option.some.inj h).symm⟩
theorem if_true_of {t : Bool} {L R : Prop} (e : t = true) (yes : L) : if t = true then L else R := by subst e; exact yes
theorem if_false_of {t : Bool} {L R : Prop} (e : t = false) (no : R) : if t = true then L else R := by subst e; exact no
theorem ifb {c : Bool} {A B : Prop} (h1 : c = true → A) (h2 : c = false → B) : if c = true then A else B := by
  cases c with
  | true => exact if_true_of rfl (h1 rfl)
  | false => exact if_false_of rfl (h2 rfl)
end Rn
set_option Elab.async false
set_option maxRecDepth 100000
set_option maxHeartbeats 4000000
namespace Rn
open PySem PySem.Spec PyProof.Rows L2
def topS (i : Nat) : Stmt := PySem.Challenge.pw_rightnames_s01_answers.main.body.getD i (.Pass ⟨0, 0, 0, 0⟩)
abbrev s_refusal : Stmt := topS 6
theorem sc_refusal : FnScope ["cause"] ["cause"] (defScope s_refusal) := ⟨rfl, rfl, rfl, by decide +kernel, rfl, by decide +kernel, by decide +kernel⟩
abbrev s_NumberReader_init : Stmt := inClass (topS 8) 0
theorem sc_NumberReader_init : FnScope ["self", "numbers"] ["self", "numbers"] (defScope s_NumberReader_init) := ⟨rfl, rfl, rfl, by decide +kernel, rfl, by decide +kernel, by decide +kernel⟩
abbrev s_NumberReader_at_end : Stmt := inClass (topS 8) 1
theorem sc_NumberReader_at_end : FnScope ["self"] ["self"] (defScope s_NumberReader_at_end) := ⟨rfl, rfl, rfl, by decide +kernel, rfl, by decide +kernel, by decide +kernel⟩
abbrev s_NumberReader_take : Stmt := inClass (topS 8) 2
theorem sc_NumberReader_take : FnScope ["self", "number"] ["self"] (defScope s_NumberReader_take) := ⟨rfl, rfl, rfl, by decide +kernel, rfl, by decide +kernel, by decide +kernel⟩
abbrev s_NumberReader_take_row : Stmt := inClass (topS 8) 3
theorem sc_NumberReader_take_row : FnScope ["self", "length", "row"] ["self"] (defScope s_NumberReader_take_row) := ⟨rfl, rfl, rfl, by decide +kernel, rfl, by decide +kernel, by decide +kernel⟩
abbrev s_words_fit : Stmt := topS 13
theorem sc_words_fit : FnScope ["words", "word"] ["words"] (defScope s_words_fit) := ⟨rfl, rfl, rfl, by decide +kernel, rfl, by decide +kernel, by decide +kernel⟩
abbrev s_is_form : Stmt := topS 14
theorem sc_is_form : FnScope ["words"] ["words"] (defScope s_is_form) := ⟨rfl, rfl, rfl, by decide +kernel, rfl, by decide +kernel, by decide +kernel⟩
abbrev s_is_sentence : Stmt := topS 15
theorem sc_is_sentence : FnScope ["words"] ["words"] (defScope s_is_sentence) := ⟨rfl, rfl, rfl, by decide +kernel, rfl, by decide +kernel, by decide +kernel⟩
abbrev s_Thing_init : Stmt := inClass (topS 23) 0
theorem sc_Thing_init : FnScope ["self", "number", "source_forms", "target_pairs", "form", "standing"] ["self", "number", "source_forms", "target_pairs"] (defScope s_Thing_init) := ⟨rfl, rfl, rfl, by decide +kernel, rfl, by decide +kernel, by decide +kernel⟩
abbrev s_Thing_is_meant_by : Stmt := inClass (topS 23) 1
theorem sc_Thing_is_meant_by : FnScope ["self", "form"] ["self", "form"] (defScope s_Thing_is_meant_by) := ⟨rfl, rfl, rfl, by decide +kernel, rfl, by decide +kernel, by decide +kernel⟩
abbrev s_Thing_is_served_by : Stmt := inClass (topS 23) 2
theorem sc_Thing_is_served_by : FnScope ["self", "form"] ["self", "form"] (defScope s_Thing_is_served_by) := ⟨rfl, rfl, rfl, by decide +kernel, rfl, by decide +kernel, by decide +kernel⟩
abbrev s_Thing_forbids : Stmt := inClass (topS 23) 3
theorem sc_Thing_forbids : FnScope ["self", "form"] ["self", "form"] (defScope s_Thing_forbids) := ⟨rfl, rfl, rfl, by decide +kernel, rfl, by decide +kernel, by decide +kernel⟩
abbrev s_Thing_target_forms_that_are : Stmt := inClass (topS 23) 4
theorem sc_Thing_target_forms_that_are : FnScope ["self", "standing", "form"] ["self", "standing"] (defScope s_Thing_target_forms_that_are) := ⟨rfl, rfl, rfl, by decide +kernel, rfl, by decide +kernel, by decide +kernel⟩
abbrev s_TermList_init : Stmt := inClass (topS 24) 0
theorem sc_TermList_init : FnScope ["self"] ["self"] (defScope s_TermList_init) := ⟨rfl, rfl, rfl, by decide +kernel, rfl, by decide +kernel, by decide +kernel⟩
abbrev s_read_source_forms : Stmt := topS 25
theorem sc_read_source_forms : FnScope ["reader", "forms", "turn"] ["reader"] (defScope s_read_source_forms) := ⟨rfl, rfl, rfl, by decide +kernel, rfl, by decide +kernel, by decide +kernel⟩
abbrev s_read_target_forms : Stmt := topS 26
theorem sc_read_target_forms : FnScope ["reader", "pairs", "turn", "form"] ["reader"] (defScope s_read_target_forms) := ⟨rfl, rfl, rfl, by decide +kernel, rfl, by decide +kernel, by decide +kernel⟩
abbrev s_are_forms : Stmt := topS 27
theorem sc_are_forms : FnScope ["forms", "none_twice", "form"] ["forms"] (defScope s_are_forms) := ⟨rfl, rfl, rfl, by decide +kernel, rfl, by decide +kernel, by decide +kernel⟩
abbrev s_source_forms_fit : Stmt := topS 28
theorem sc_source_forms_fit : FnScope ["forms"] ["forms"] (defScope s_source_forms_fit) := ⟨rfl, rfl, rfl, by decide +kernel, rfl, by decide +kernel, by decide +kernel⟩
abbrev s_target_forms_fit : Stmt := topS 29
theorem sc_target_forms_fit : FnScope ["pairs", "standings_fit", "form", "standing"] ["pairs"] (defScope s_target_forms_fit) := ⟨rfl, rfl, rfl, by decide +kernel, rfl, by decide +kernel, by decide +kernel⟩
abbrev s_change_list : Stmt := topS 30
theorem sc_change_list : FnScope ["terms", "things"] ["terms", "things"] (defScope s_change_list) := ⟨rfl, rfl, rfl, by decide +kernel, rfl, by decide +kernel, by decide +kernel⟩
abbrev s_add_thing : Stmt := topS 31
theorem sc_add_thing : FnScope ["terms", "told", "reader", "source_forms", "target_pairs", "number"] ["terms", "told"] (defScope s_add_thing) := ⟨rfl, rfl, rfl, by decide +kernel, rfl, by decide +kernel, by decide +kernel⟩
abbrev s_drop_thing : Stmt := topS 32
theorem sc_drop_thing : FnScope ["terms", "number", "left", "thing"] ["terms", "number"] (defScope s_drop_thing) := ⟨rfl, rfl, rfl, by decide +kernel, rfl, by decide +kernel, by decide +kernel⟩
abbrev s_undo_change : Stmt := topS 33
theorem sc_undo_change : FnScope ["terms"] ["terms"] (defScope s_undo_change) := ⟨rfl, rfl, rfl, by decide +kernel, rfl, by decide +kernel, by decide +kernel⟩
abbrev s_all_source_forms : Stmt := topS 34
theorem sc_all_source_forms : FnScope ["terms", "forms", "thing", "form"] ["terms"] (defScope s_all_source_forms) := ⟨rfl, rfl, rfl, by decide +kernel, rfl, by decide +kernel, by decide +kernel⟩
abbrev s_all_target_forms : Stmt := topS 35
theorem sc_all_target_forms : FnScope ["terms", "forms", "thing", "form"] ["terms"] (defScope s_all_target_forms) := ⟨rfl, rfl, rfl, by decide +kernel, rfl, by decide +kernel, by decide +kernel⟩
abbrev s_things_meant : Stmt := topS 36
theorem sc_things_meant : FnScope ["terms", "form", "thing"] ["terms", "form"] (defScope s_things_meant) := ⟨rfl, rfl, rfl, by decide +kernel, rfl, by decide +kernel, by decide +kernel⟩
abbrev s_numbered : Stmt := topS 37
theorem sc_numbered : FnScope ["things", "thing"] ["things"] (defScope s_numbered) := ⟨rfl, rfl, rfl, by decide +kernel, rfl, by decide +kernel, by decide +kernel⟩
abbrev s_spelled : Stmt := topS 38
theorem sc_spelled : FnScope ["form"] ["form"] (defScope s_spelled) := ⟨rfl, rfl, rfl, by decide +kernel, rfl, by decide +kernel, by decide +kernel⟩
abbrev s_tell_doubles : Stmt := topS 39
theorem sc_tell_doubles : FnScope ["terms", "answer", "count", "form", "things"] ["terms"] (defScope s_tell_doubles) := ⟨rfl, rfl, rfl, by decide +kernel, rfl, by decide +kernel, by decide +kernel⟩
abbrev s_Mark_init : Stmt := inClass (topS 41) 0
theorem sc_Mark_init : FnScope ["self", "begin", "form"] ["self", "begin", "form"] (defScope s_Mark_init) := ⟨rfl, rfl, rfl, by decide +kernel, rfl, by decide +kernel, by decide +kernel⟩
abbrev s_longest_form_at : Stmt := topS 42
theorem sc_longest_form_at : FnScope ["sentence", "place", "forms", "longest", "length", "words"] ["sentence", "place", "forms"] (defScope s_longest_form_at) := ⟨rfl, rfl, rfl, by decide +kernel, rfl, by decide +kernel, by decide +kernel⟩
abbrev s_find_marks : Stmt := topS 43
theorem sc_find_marks : FnScope ["sentence", "forms", "found", "place", "form"] ["sentence", "forms"] (defScope s_find_marks) := ⟨rfl, rfl, rfl, by decide +kernel, rfl, by decide +kernel, by decide +kernel⟩
abbrev s_tell_marks : Stmt := topS 44
theorem sc_tell_marks : FnScope ["terms", "sentence", "found", "answer", "mark"] ["terms", "sentence"] (defScope s_tell_marks) := ⟨rfl, rfl, rfl, by decide +kernel, rfl, by decide +kernel, by decide +kernel⟩
abbrev s_most_with_one_more : Stmt := topS 46
theorem sc_most_with_one_more : FnScope ["partners", "most_behind", "most", "taken", "pairs", "target", "bit"] ["partners", "most_behind"] (defScope s_most_with_one_more) := ⟨rfl, rfl, rfl, by decide +kernel, rfl, by decide +kernel, by decide +kernel⟩
abbrev s_most_from_each_on : Stmt := topS 47
theorem sc_most_from_each_on : FnScope ["partner_lists", "target_count", "tables", "partners"] ["partner_lists", "target_count"] (defScope s_most_from_each_on) := ⟨rfl, rfl, rfl, by decide +kernel, rfl, by decide +kernel, by decide +kernel⟩
abbrev s_first_choice : Stmt := topS 48
theorem sc_first_choice : FnScope ["partners", "taken", "most_here", "most_behind", "target", "bit"] ["partners", "taken", "most_here", "most_behind"] (defScope s_first_choice) := ⟨rfl, rfl, rfl, by decide +kernel, rfl, by decide +kernel, by decide +kernel⟩
abbrev s_first_pairing : Stmt := topS 49
theorem sc_first_pairing : FnScope ["partner_lists", "target_count", "tables", "taken", "choices", "place", "partners", "choice"] ["partner_lists", "target_count"] (defScope s_first_pairing) := ⟨rfl, rfl, rfl, by decide +kernel, rfl, by decide +kernel, by decide +kernel⟩
abbrev s_serves_one_of : Stmt := topS 52
theorem sc_serves_one_of : FnScope ["things", "form", "thing"] ["things", "form"] (defScope s_serves_one_of) := ⟨rfl, rfl, rfl, by decide +kernel, rfl, by decide +kernel, by decide +kernel⟩
abbrev s_forbidden_for_one_of : Stmt := topS 53
theorem sc_forbidden_for_one_of : FnScope ["things", "form", "thing"] ["things", "form"] (defScope s_forbidden_for_one_of) := ⟨rfl, rfl, rfl, by decide +kernel, rfl, by decide +kernel, by decide +kernel⟩
abbrev s_partners_of : Stmt := topS 54
theorem sc_partners_of : FnScope ["things", "target_marks", "place", "mark"] ["things", "target_marks"] (defScope s_partners_of) := ⟨rfl, rfl, rfl, by decide +kernel, rfl, by decide +kernel, by decide +kernel⟩
abbrev s_is_wrong : Stmt := topS 55
theorem sc_is_wrong : FnScope ["things", "form"] ["things", "form"] (defScope s_is_wrong) := ⟨rfl, rfl, rfl, by decide +kernel, rfl, by decide +kernel, by decide +kernel⟩
abbrev s_wrong_marks : Stmt := topS 56
theorem sc_wrong_marks : FnScope ["meant_lists", "target_marks", "meant", "things", "mark"] ["meant_lists", "target_marks"] (defScope s_wrong_marks) := ⟨rfl, rfl, rfl, by decide +kernel, rfl, by decide +kernel, by decide +kernel⟩
abbrev s_compare_marks : Stmt := topS 57
theorem sc_compare_marks : FnScope ["terms", "source_marks", "target_marks", "meant_lists", "mark", "partner_lists", "things", "choices", "pairs", "choice", "wrong", "answer"] ["terms", "source_marks", "target_marks"] (defScope s_compare_marks) := ⟨rfl, rfl, rfl, by decide +kernel, rfl, by decide +kernel, by decide +kernel⟩
abbrev s_check_translation : Stmt := topS 58
theorem sc_check_translation : FnScope ["terms", "sentence", "translation", "source_marks", "target_marks"] ["terms", "sentence", "translation"] (defScope s_check_translation) := ⟨rfl, rfl, rfl, by decide +kernel, rfl, by decide +kernel, by decide +kernel⟩
abbrev s_thing_with_number : Stmt := topS 60
theorem sc_thing_with_number : FnScope ["terms", "number", "thing"] ["terms", "number"] (defScope s_thing_with_number) := ⟨rfl, rfl, rfl, by decide +kernel, rfl, by decide +kernel, by decide +kernel⟩
abbrev s_tell_best : Stmt := topS 61
theorem sc_tell_best : FnScope ["terms", "number", "thing", "right_forms"] ["terms", "number"] (defScope s_tell_best) := ⟨rfl, rfl, rfl, by decide +kernel, rfl, by decide +kernel, by decide +kernel⟩
abbrev s_tell_things : Stmt := topS 62
theorem sc_tell_things : FnScope ["terms", "answer", "thing"] ["terms"] (defScope s_tell_things) := ⟨rfl, rfl, rfl, by decide +kernel, rfl, by decide +kernel, by decide +kernel⟩
abbrev s_tell_named : Stmt := topS 63
theorem sc_tell_named : FnScope ["terms", "words", "form", "served", "thing", "forbidding"] ["terms", "words"] (defScope s_tell_named) := ⟨rfl, rfl, rfl, by decide +kernel, rfl, by decide +kernel, by decide +kernel⟩
abbrev s_answer_call : Stmt := topS 75
theorem sc_answer_call : FnScope ["terms", "reader", "call", "sentence"] ["terms", "reader"] (defScope s_answer_call) := ⟨rfl, rfl, rfl, by decide +kernel, rfl, by decide +kernel, by decide +kernel⟩
abbrev s_answers : Stmt := topS 76
theorem sc_answers : FnScope ["calls", "terms", "reader", "told", "answer"] ["calls"] (defScope s_answers) := ⟨rfl, rfl, rfl, by decide +kernel, rfl, by decide +kernel, by decide +kernel⟩
def fs_NumberReader (a0 a1 : V) : List (Str × V) := [("numbers", a0), ("place", a1)]
theorem lk_NumberReader_numbers (a0 a1 : V) : (fs_NumberReader a0 a1).lookup ("numbers" : Str) = some a0 := lk_here
theorem pt_NumberReader_numbers (a0 a1 : V) (x : V) : putF "numbers" x (fs_NumberReader a0 a1) = fs_NumberReader x a1 := put_here
theorem in_NumberReader_numbers (x : V) : putF "numbers" x ([] : List (Str × V)) = ([("numbers", x)] : List (Str × V)) := rfl
theorem lk_NumberReader_place (a0 a1 : V) : (fs_NumberReader a0 a1).lookup ("place" : Str) = some a1 := ((lk_past (by decide +kernel)).trans lk_here)
theorem pt_NumberReader_place (a0 a1 : V) (x : V) : putF "place" x (fs_NumberReader a0 a1) = fs_NumberReader a0 x := (put_past (by decide +kernel)).trans (congrArg _ (put_here))
theorem in_NumberReader_place (a0 : V) (x : V) : putF "place" x ([("numbers", a0)] : List (Str × V)) = ([("numbers", a0), ("place", x)] : List (Str × V)) := (put_past (by decide +kernel)).trans (congrArg _ (rfl))
theorem no_NumberReader_at_end (a0 a1 : V) : (fs_NumberReader a0 a1).lookup ("at_end" : Str) = none := ((lk_past (by decide +kernel)).trans ((lk_past (by decide +kernel)).trans rfl))
theorem no_NumberReader_take (a0 a1 : V) : (fs_NumberReader a0 a1).lookup ("take" : Str) = none := ((lk_past (by decide +kernel)).trans ((lk_past (by decide +kernel)).trans rfl))
theorem no_NumberReader_take_row (a0 a1 : V) : (fs_NumberReader a0 a1).lookup ("take_row" : Str) = none := ((lk_past (by decide +kernel)).trans ((lk_past (by decide +kernel)).trans rfl))
def fs_Thing (a0 a1 a2 : V) : List (Str × V) := [("number", a0), ("source_forms", a1), ("standings", a2)]
theorem lk_Thing_number (a0 a1 a2 : V) : (fs_Thing a0 a1 a2).lookup ("number" : Str) = some a0 := lk_here
theorem pt_Thing_number (a0 a1 a2 : V) (x : V) : putF "number" x (fs_Thing a0 a1 a2) = fs_Thing x a1 a2 := put_here
theorem in_Thing_number (x : V) : putF "number" x ([] : List (Str × V)) = ([("number", x)] : List (Str × V)) := rfl
theorem lk_Thing_source_forms (a0 a1 a2 : V) : (fs_Thing a0 a1 a2).lookup ("source_forms" : Str) = some a1 := ((lk_past (by decide +kernel)).trans lk_here)
theorem pt_Thing_source_forms (a0 a1 a2 : V) (x : V) : putF "source_forms" x (fs_Thing a0 a1 a2) = fs_Thing a0 x a2 := (put_past (by decide +kernel)).trans (congrArg _ (put_here))
theorem in_Thing_source_forms (a0 : V) (x : V) : putF "source_forms" x ([("number", a0)] : List (Str × V)) = ([("number", a0), ("source_forms", x)] : List (Str × V)) := (put_past (by decide +kernel)).trans (congrArg _ (rfl))
theorem lk_Thing_standings (a0 a1 a2 : V) : (fs_Thing a0 a1 a2).lookup ("standings" : Str) = some a2 := ((lk_past (by decide +kernel)).trans ((lk_past (by decide +kernel)).trans lk_here))
theorem pt_Thing_standings (a0 a1 a2 : V) (x : V) : putF "standings" x (fs_Thing a0 a1 a2) = fs_Thing a0 a1 x := (put_past (by decide +kernel)).trans (congrArg _ ((put_past (by decide +kernel)).trans (congrArg _ (put_here))))
theorem in_Thing_standings (a0 a1 : V) (x : V) : putF "standings" x ([("number", a0), ("source_forms", a1)] : List (Str × V)) = ([("number", a0), ("source_forms", a1), ("standings", x)] : List (Str × V)) := (put_past (by decide +kernel)).trans (congrArg _ ((put_past (by decide +kernel)).trans (congrArg _ (rfl))))
theorem no_Thing_is_meant_by (a0 a1 a2 : V) : (fs_Thing a0 a1 a2).lookup ("is_meant_by" : Str) = none := ((lk_past (by decide +kernel)).trans ((lk_past (by decide +kernel)).trans ((lk_past (by decide +kernel)).trans rfl)))
theorem no_Thing_is_served_by (a0 a1 a2 : V) : (fs_Thing a0 a1 a2).lookup ("is_served_by" : Str) = none := ((lk_past (by decide +kernel)).trans ((lk_past (by decide +kernel)).trans ((lk_past (by decide +kernel)).trans rfl)))
theorem no_Thing_forbids (a0 a1 a2 : V) : (fs_Thing a0 a1 a2).lookup ("forbids" : Str) = none := ((lk_past (by decide +kernel)).trans ((lk_past (by decide +kernel)).trans ((lk_past (by decide +kernel)).trans rfl)))
theorem no_Thing_target_forms_that_are (a0 a1 a2 : V) : (fs_Thing a0 a1 a2).lookup ("target_forms_that_are" : Str) = none := ((lk_past (by decide +kernel)).trans ((lk_past (by decide +kernel)).trans ((lk_past (by decide +kernel)).trans rfl)))
def fs_TermList (a0 a1 a2 : V) : List (Str × V) := [("kept", a0), ("kept_before", a1), ("numbers_given", a2)]
theorem lk_TermList_kept (a0 a1 a2 : V) : (fs_TermList a0 a1 a2).lookup ("kept" : Str) = some a0 := lk_here
theorem pt_TermList_kept (a0 a1 a2 : V) (x : V) : putF "kept" x (fs_TermList a0 a1 a2) = fs_TermList x a1 a2 := put_here
theorem in_TermList_kept (x : V) : putF "kept" x ([] : List (Str × V)) = ([("kept", x)] : List (Str × V)) := rfl
theorem lk_TermList_kept_before (a0 a1 a2 : V) : (fs_TermList a0 a1 a2).lookup ("kept_before" : Str) = some a1 := ((lk_past (by decide +kernel)).trans lk_here)
theorem pt_TermList_kept_before (a0 a1 a2 : V) (x : V) : putF "kept_before" x (fs_TermList a0 a1 a2) = fs_TermList a0 x a2 := (put_past (by decide +kernel)).trans (congrArg _ (put_here))
theorem in_TermList_kept_before (a0 : V) (x : V) : putF "kept_before" x ([("kept", a0)] : List (Str × V)) = ([("kept", a0), ("kept_before", x)] : List (Str × V)) := (put_past (by decide +kernel)).trans (congrArg _ (rfl))
theorem lk_TermList_numbers_given (a0 a1 a2 : V) : (fs_TermList a0 a1 a2).lookup ("numbers_given" : Str) = some a2 := ((lk_past (by decide +kernel)).trans ((lk_past (by decide +kernel)).trans lk_here))
theorem pt_TermList_numbers_given (a0 a1 a2 : V) (x : V) : putF "numbers_given" x (fs_TermList a0 a1 a2) = fs_TermList a0 a1 x := (put_past (by decide +kernel)).trans (congrArg _ ((put_past (by decide +kernel)).trans (congrArg _ (put_here))))
theorem in_TermList_numbers_given (a0 a1 : V) (x : V) : putF "numbers_given" x ([("kept", a0), ("kept_before", a1)] : List (Str × V)) = ([("kept", a0), ("kept_before", a1), ("numbers_given", x)] : List (Str × V)) := (put_past (by decide +kernel)).trans (congrArg _ ((put_past (by decide +kernel)).trans (congrArg _ (rfl))))
def fs_Mark (a0 a1 a2 : V) : List (Str × V) := [("begin", a0), ("end", a1), ("form", a2)]
theorem lk_Mark_begin (a0 a1 a2 : V) : (fs_Mark a0 a1 a2).lookup ("begin" : Str) = some a0 := lk_here
theorem pt_Mark_begin (a0 a1 a2 : V) (x : V) : putF "begin" x (fs_Mark a0 a1 a2) = fs_Mark x a1 a2 := put_here
theorem in_Mark_begin (x : V) : putF "begin" x ([] : List (Str × V)) = ([("begin", x)] : List (Str × V)) := rfl
theorem lk_Mark_end (a0 a1 a2 : V) : (fs_Mark a0 a1 a2).lookup ("end" : Str) = some a1 := ((lk_past (by decide +kernel)).trans lk_here)
theorem pt_Mark_end (a0 a1 a2 : V) (x : V) : putF "end" x (fs_Mark a0 a1 a2) = fs_Mark a0 x a2 := (put_past (by decide +kernel)).trans (congrArg _ (put_here))
theorem in_Mark_end (a0 : V) (x : V) : putF "end" x ([("begin", a0)] : List (Str × V)) = ([("begin", a0), ("end", x)] : List (Str × V)) := (put_past (by decide +kernel)).trans (congrArg _ (rfl))
theorem lk_Mark_form (a0 a1 a2 : V) : (fs_Mark a0 a1 a2).lookup ("form" : Str) = some a2 := ((lk_past (by decide +kernel)).trans ((lk_past (by decide +kernel)).trans lk_here))
theorem pt_Mark_form (a0 a1 a2 : V) (x : V) : putF "form" x (fs_Mark a0 a1 a2) = fs_Mark a0 a1 x := (put_past (by decide +kernel)).trans (congrArg _ ((put_past (by decide +kernel)).trans (congrArg _ (put_here))))
theorem in_Mark_form (a0 a1 : V) (x : V) : putF "form" x ([("begin", a0), ("end", a1)] : List (Str × V)) = ([("begin", a0), ("end", a1), ("form", x)] : List (Str × V)) := (put_past (by decide +kernel)).trans (congrArg _ ((put_past (by decide +kernel)).trans (congrArg _ (rfl))))
structure Txt (K : PySem.W.Frag) (mg : Str → Option Value) where
  f_refusal : Addr
  fd_refusal : FuncData
  F_refusal : Fun K "refusal" "refusal" s_refusal f_refusal fd_refusal
  b_refusal : Binds K fd_refusal ["cause"] []
  g_refusal : mg "refusal" = some (.ref f_refusal)
  f_NumberReader_init : Addr
  fd_NumberReader_init : FuncData
  F_NumberReader_init : Fun K "__init__" "NumberReader.__init__" s_NumberReader_init f_NumberReader_init fd_NumberReader_init
  b_NumberReader_init : Binds K fd_NumberReader_init ["self", "numbers"] []
  f_NumberReader_at_end : Addr
  fd_NumberReader_at_end : FuncData
  F_NumberReader_at_end : Fun K "at_end" "NumberReader.at_end" s_NumberReader_at_end f_NumberReader_at_end fd_NumberReader_at_end
  b_NumberReader_at_end : Binds K fd_NumberReader_at_end ["self"] []
  f_NumberReader_take : Addr
  fd_NumberReader_take : FuncData
  F_NumberReader_take : Fun K "take" "NumberReader.take" s_NumberReader_take f_NumberReader_take fd_NumberReader_take
  b_NumberReader_take : Binds K fd_NumberReader_take ["self"] []
  f_NumberReader_take_row : Addr
  fd_NumberReader_take_row : FuncData
  F_NumberReader_take_row : Fun K "take_row" "NumberReader.take_row" s_NumberReader_take_row f_NumberReader_take_row fd_NumberReader_take_row
  b_NumberReader_take_row : Binds K fd_NumberReader_take_row ["self"] []
  f_words_fit : Addr
  fd_words_fit : FuncData
  F_words_fit : Fun K "words_fit" "words_fit" s_words_fit f_words_fit fd_words_fit
  b_words_fit : Binds K fd_words_fit ["words"] []
  g_words_fit : mg "words_fit" = some (.ref f_words_fit)
  f_is_form : Addr
  fd_is_form : FuncData
  F_is_form : Fun K "is_form" "is_form" s_is_form f_is_form fd_is_form
  b_is_form : Binds K fd_is_form ["words"] []
  g_is_form : mg "is_form" = some (.ref f_is_form)
  f_is_sentence : Addr
  fd_is_sentence : FuncData
  F_is_sentence : Fun K "is_sentence" "is_sentence" s_is_sentence f_is_sentence fd_is_sentence
  b_is_sentence : Binds K fd_is_sentence ["words"] []
  g_is_sentence : mg "is_sentence" = some (.ref f_is_sentence)
  f_Thing_init : Addr
  fd_Thing_init : FuncData
  F_Thing_init : Fun K "__init__" "Thing.__init__" s_Thing_init f_Thing_init fd_Thing_init
  b_Thing_init : Binds K fd_Thing_init ["self", "number", "source_forms", "target_pairs"] []
  f_Thing_is_meant_by : Addr
  fd_Thing_is_meant_by : FuncData
  F_Thing_is_meant_by : Fun K "is_meant_by" "Thing.is_meant_by" s_Thing_is_meant_by f_Thing_is_meant_by fd_Thing_is_meant_by
  b_Thing_is_meant_by : Binds K fd_Thing_is_meant_by ["self", "form"] []
  f_Thing_is_served_by : Addr
  fd_Thing_is_served_by : FuncData
  F_Thing_is_served_by : Fun K "is_served_by" "Thing.is_served_by" s_Thing_is_served_by f_Thing_is_served_by fd_Thing_is_served_by
  b_Thing_is_served_by : Binds K fd_Thing_is_served_by ["self", "form"] []
  f_Thing_forbids : Addr
  fd_Thing_forbids : FuncData
  F_Thing_forbids : Fun K "forbids" "Thing.forbids" s_Thing_forbids f_Thing_forbids fd_Thing_forbids
  b_Thing_forbids : Binds K fd_Thing_forbids ["self", "form"] []
  f_Thing_target_forms_that_are : Addr
  fd_Thing_target_forms_that_are : FuncData
  F_Thing_target_forms_that_are : Fun K "target_forms_that_are" "Thing.target_forms_that_are" s_Thing_target_forms_that_are f_Thing_target_forms_that_are fd_Thing_target_forms_that_are
  b_Thing_target_forms_that_are : Binds K fd_Thing_target_forms_that_are ["self", "standing"] []
  f_TermList_init : Addr
  fd_TermList_init : FuncData
  F_TermList_init : Fun K "__init__" "TermList.__init__" s_TermList_init f_TermList_init fd_TermList_init
  b_TermList_init : Binds K fd_TermList_init ["self"] []
  f_read_source_forms : Addr
  fd_read_source_forms : FuncData
  F_read_source_forms : Fun K "read_source_forms" "read_source_forms" s_read_source_forms f_read_source_forms fd_read_source_forms
  b_read_source_forms : Binds K fd_read_source_forms ["reader"] []
  g_read_source_forms : mg "read_source_forms" = some (.ref f_read_source_forms)
  f_read_target_forms : Addr
  fd_read_target_forms : FuncData
  F_read_target_forms : Fun K "read_target_forms" "read_target_forms" s_read_target_forms f_read_target_forms fd_read_target_forms
  b_read_target_forms : Binds K fd_read_target_forms ["reader"] []
  g_read_target_forms : mg "read_target_forms" = some (.ref f_read_target_forms)
  f_are_forms : Addr
  fd_are_forms : FuncData
  F_are_forms : Fun K "are_forms" "are_forms" s_are_forms f_are_forms fd_are_forms
  b_are_forms : Binds K fd_are_forms ["forms"] []
  g_are_forms : mg "are_forms" = some (.ref f_are_forms)
  f_source_forms_fit : Addr
  fd_source_forms_fit : FuncData
  F_source_forms_fit : Fun K "source_forms_fit" "source_forms_fit" s_source_forms_fit f_source_forms_fit fd_source_forms_fit
  b_source_forms_fit : Binds K fd_source_forms_fit ["forms"] []
  g_source_forms_fit : mg "source_forms_fit" = some (.ref f_source_forms_fit)
  f_target_forms_fit : Addr
  fd_target_forms_fit : FuncData
  F_target_forms_fit : Fun K "target_forms_fit" "target_forms_fit" s_target_forms_fit f_target_forms_fit fd_target_forms_fit
  b_target_forms_fit : Binds K fd_target_forms_fit ["pairs"] []
  g_target_forms_fit : mg "target_forms_fit" = some (.ref f_target_forms_fit)
  f_change_list : Addr
  fd_change_list : FuncData
  F_change_list : Fun K "change_list" "change_list" s_change_list f_change_list fd_change_list
  b_change_list : Binds K fd_change_list ["terms", "things"] []
  g_change_list : mg "change_list" = some (.ref f_change_list)
  f_add_thing : Addr
  fd_add_thing : FuncData
  F_add_thing : Fun K "add_thing" "add_thing" s_add_thing f_add_thing fd_add_thing
  b_add_thing : Binds K fd_add_thing ["terms", "told"] []
  g_add_thing : mg "add_thing" = some (.ref f_add_thing)
  f_drop_thing : Addr
  fd_drop_thing : FuncData
  F_drop_thing : Fun K "drop_thing" "drop_thing" s_drop_thing f_drop_thing fd_drop_thing
  b_drop_thing : Binds K fd_drop_thing ["terms", "number"] []
  g_drop_thing : mg "drop_thing" = some (.ref f_drop_thing)
  f_undo_change : Addr
  fd_undo_change : FuncData
  F_undo_change : Fun K "undo_change" "undo_change" s_undo_change f_undo_change fd_undo_change
  b_undo_change : Binds K fd_undo_change ["terms"] []
  g_undo_change : mg "undo_change" = some (.ref f_undo_change)
  f_all_source_forms : Addr
  fd_all_source_forms : FuncData
  F_all_source_forms : Fun K "all_source_forms" "all_source_forms" s_all_source_forms f_all_source_forms fd_all_source_forms
  b_all_source_forms : Binds K fd_all_source_forms ["terms"] []
  g_all_source_forms : mg "all_source_forms" = some (.ref f_all_source_forms)
  f_all_target_forms : Addr
  fd_all_target_forms : FuncData
  F_all_target_forms : Fun K "all_target_forms" "all_target_forms" s_all_target_forms f_all_target_forms fd_all_target_forms
  b_all_target_forms : Binds K fd_all_target_forms ["terms"] []
  g_all_target_forms : mg "all_target_forms" = some (.ref f_all_target_forms)
  f_things_meant : Addr
  fd_things_meant : FuncData
  F_things_meant : Fun K "things_meant" "things_meant" s_things_meant f_things_meant fd_things_meant
  b_things_meant : Binds K fd_things_meant ["terms", "form"] []
  g_things_meant : mg "things_meant" = some (.ref f_things_meant)
  f_numbered : Addr
  fd_numbered : FuncData
  F_numbered : Fun K "numbered" "numbered" s_numbered f_numbered fd_numbered
  b_numbered : Binds K fd_numbered ["things"] []
  g_numbered : mg "numbered" = some (.ref f_numbered)
  f_spelled : Addr
  fd_spelled : FuncData
  F_spelled : Fun K "spelled" "spelled" s_spelled f_spelled fd_spelled
  b_spelled : Binds K fd_spelled ["form"] []
  g_spelled : mg "spelled" = some (.ref f_spelled)
  f_tell_doubles : Addr
  fd_tell_doubles : FuncData
  F_tell_doubles : Fun K "tell_doubles" "tell_doubles" s_tell_doubles f_tell_doubles fd_tell_doubles
  b_tell_doubles : Binds K fd_tell_doubles ["terms"] []
  g_tell_doubles : mg "tell_doubles" = some (.ref f_tell_doubles)
  f_Mark_init : Addr
  fd_Mark_init : FuncData
  F_Mark_init : Fun K "__init__" "Mark.__init__" s_Mark_init f_Mark_init fd_Mark_init
  b_Mark_init : Binds K fd_Mark_init ["self", "begin", "form"] []
  f_longest_form_at : Addr
  fd_longest_form_at : FuncData
  F_longest_form_at : Fun K "longest_form_at" "longest_form_at" s_longest_form_at f_longest_form_at fd_longest_form_at
  b_longest_form_at : Binds K fd_longest_form_at ["sentence", "place", "forms"] []
  g_longest_form_at : mg "longest_form_at" = some (.ref f_longest_form_at)
  f_find_marks : Addr
  fd_find_marks : FuncData
  F_find_marks : Fun K "find_marks" "find_marks" s_find_marks f_find_marks fd_find_marks
  b_find_marks : Binds K fd_find_marks ["sentence", "forms"] []
  g_find_marks : mg "find_marks" = some (.ref f_find_marks)
  f_tell_marks : Addr
  fd_tell_marks : FuncData
  F_tell_marks : Fun K "tell_marks" "tell_marks" s_tell_marks f_tell_marks fd_tell_marks
  b_tell_marks : Binds K fd_tell_marks ["terms", "sentence"] []
  g_tell_marks : mg "tell_marks" = some (.ref f_tell_marks)
  f_most_with_one_more : Addr
  fd_most_with_one_more : FuncData
  F_most_with_one_more : Fun K "most_with_one_more" "most_with_one_more" s_most_with_one_more f_most_with_one_more fd_most_with_one_more
  b_most_with_one_more : Binds K fd_most_with_one_more ["partners", "most_behind"] []
  g_most_with_one_more : mg "most_with_one_more" = some (.ref f_most_with_one_more)
  f_most_from_each_on : Addr
  fd_most_from_each_on : FuncData
  F_most_from_each_on : Fun K "most_from_each_on" "most_from_each_on" s_most_from_each_on f_most_from_each_on fd_most_from_each_on
  b_most_from_each_on : Binds K fd_most_from_each_on ["partner_lists", "target_count"] []
  g_most_from_each_on : mg "most_from_each_on" = some (.ref f_most_from_each_on)
  f_first_choice : Addr
  fd_first_choice : FuncData
  F_first_choice : Fun K "first_choice" "first_choice" s_first_choice f_first_choice fd_first_choice
  b_first_choice : Binds K fd_first_choice ["partners", "taken", "most_here", "most_behind"] []
  g_first_choice : mg "first_choice" = some (.ref f_first_choice)
  f_first_pairing : Addr
  fd_first_pairing : FuncData
  F_first_pairing : Fun K "first_pairing" "first_pairing" s_first_pairing f_first_pairing fd_first_pairing
  b_first_pairing : Binds K fd_first_pairing ["partner_lists", "target_count"] []
  g_first_pairing : mg "first_pairing" = some (.ref f_first_pairing)
  f_serves_one_of : Addr
  fd_serves_one_of : FuncData
  F_serves_one_of : Fun K "serves_one_of" "serves_one_of" s_serves_one_of f_serves_one_of fd_serves_one_of
  b_serves_one_of : Binds K fd_serves_one_of ["things", "form"] []
  g_serves_one_of : mg "serves_one_of" = some (.ref f_serves_one_of)
  f_forbidden_for_one_of : Addr
  fd_forbidden_for_one_of : FuncData
  F_forbidden_for_one_of : Fun K "forbidden_for_one_of" "forbidden_for_one_of" s_forbidden_for_one_of f_forbidden_for_one_of fd_forbidden_for_one_of
  b_forbidden_for_one_of : Binds K fd_forbidden_for_one_of ["things", "form"] []
  g_forbidden_for_one_of : mg "forbidden_for_one_of" = some (.ref f_forbidden_for_one_of)
  f_partners_of : Addr
  fd_partners_of : FuncData
  F_partners_of : Fun K "partners_of" "partners_of" s_partners_of f_partners_of fd_partners_of
  b_partners_of : Binds K fd_partners_of ["things", "target_marks"] []
  g_partners_of : mg "partners_of" = some (.ref f_partners_of)
  f_is_wrong : Addr
  fd_is_wrong : FuncData
  F_is_wrong : Fun K "is_wrong" "is_wrong" s_is_wrong f_is_wrong fd_is_wrong
  b_is_wrong : Binds K fd_is_wrong ["things", "form"] []
  g_is_wrong : mg "is_wrong" = some (.ref f_is_wrong)
  f_wrong_marks : Addr
  fd_wrong_marks : FuncData
  F_wrong_marks : Fun K "wrong_marks" "wrong_marks" s_wrong_marks f_wrong_marks fd_wrong_marks
  b_wrong_marks : Binds K fd_wrong_marks ["meant_lists", "target_marks"] []
  g_wrong_marks : mg "wrong_marks" = some (.ref f_wrong_marks)
  f_compare_marks : Addr
  fd_compare_marks : FuncData
  F_compare_marks : Fun K "compare_marks" "compare_marks" s_compare_marks f_compare_marks fd_compare_marks
  b_compare_marks : Binds K fd_compare_marks ["terms", "source_marks", "target_marks"] []
  g_compare_marks : mg "compare_marks" = some (.ref f_compare_marks)
  f_check_translation : Addr
  fd_check_translation : FuncData
  F_check_translation : Fun K "check_translation" "check_translation" s_check_translation f_check_translation fd_check_translation
  b_check_translation : Binds K fd_check_translation ["terms", "sentence", "translation"] []
  g_check_translation : mg "check_translation" = some (.ref f_check_translation)
  f_thing_with_number : Addr
  fd_thing_with_number : FuncData
  F_thing_with_number : Fun K "thing_with_number" "thing_with_number" s_thing_with_number f_thing_with_number fd_thing_with_number
  b_thing_with_number : Binds K fd_thing_with_number ["terms", "number"] []
  g_thing_with_number : mg "thing_with_number" = some (.ref f_thing_with_number)
  f_tell_best : Addr
  fd_tell_best : FuncData
  F_tell_best : Fun K "tell_best" "tell_best" s_tell_best f_tell_best fd_tell_best
  b_tell_best : Binds K fd_tell_best ["terms", "number"] []
  g_tell_best : mg "tell_best" = some (.ref f_tell_best)
  f_tell_things : Addr
  fd_tell_things : FuncData
  F_tell_things : Fun K "tell_things" "tell_things" s_tell_things f_tell_things fd_tell_things
  b_tell_things : Binds K fd_tell_things ["terms"] []
  g_tell_things : mg "tell_things" = some (.ref f_tell_things)
  f_tell_named : Addr
  fd_tell_named : FuncData
  F_tell_named : Fun K "tell_named" "tell_named" s_tell_named f_tell_named fd_tell_named
  b_tell_named : Binds K fd_tell_named ["terms", "words"] []
  g_tell_named : mg "tell_named" = some (.ref f_tell_named)
  f_answer_call : Addr
  fd_answer_call : FuncData
  F_answer_call : Fun K "answer_call" "answer_call" s_answer_call f_answer_call fd_answer_call
  b_answer_call : Binds K fd_answer_call ["terms", "reader"] []
  g_answer_call : mg "answer_call" = some (.ref f_answer_call)
  f_answers : Addr
  fd_answers : FuncData
  F_answers : Fun K "answers" "answers" s_answers f_answers fd_answers
  b_answers : Binds K fd_answers ["calls"] []
  g_answers : mg "answers" = some (.ref f_answers)
  C_NumberReader : Addr
  cl_NumberReader : Cls K C_NumberReader
  g_NumberReader : mg "NumberReader" = some (.ref C_NumberReader)
  mk_NumberReader : Mk K C_NumberReader f_NumberReader_init
  n_NumberReader_numbers : NoAttr K C_NumberReader "numbers"
  n_NumberReader_place : NoAttr K C_NumberReader "place"
  m_NumberReader_at_end : Meth K C_NumberReader "at_end" f_NumberReader_at_end
  m_NumberReader_take : Meth K C_NumberReader "take" f_NumberReader_take
  m_NumberReader_take_row : Meth K C_NumberReader "take_row" f_NumberReader_take_row
  C_Thing : Addr
  cl_Thing : Cls K C_Thing
  g_Thing : mg "Thing" = some (.ref C_Thing)
  mk_Thing : Mk K C_Thing f_Thing_init
  n_Thing_number : NoAttr K C_Thing "number"
  n_Thing_source_forms : NoAttr K C_Thing "source_forms"
  n_Thing_standings : NoAttr K C_Thing "standings"
  m_Thing_is_meant_by : Meth K C_Thing "is_meant_by" f_Thing_is_meant_by
  m_Thing_is_served_by : Meth K C_Thing "is_served_by" f_Thing_is_served_by
  m_Thing_forbids : Meth K C_Thing "forbids" f_Thing_forbids
  m_Thing_target_forms_that_are : Meth K C_Thing "target_forms_that_are" f_Thing_target_forms_that_are
  C_TermList : Addr
  cl_TermList : Cls K C_TermList
  g_TermList : mg "TermList" = some (.ref C_TermList)
  mk_TermList : Mk K C_TermList f_TermList_init
  n_TermList_kept : NoAttr K C_TermList "kept"
  n_TermList_kept_before : NoAttr K C_TermList "kept_before"
  n_TermList_numbers_given : NoAttr K C_TermList "numbers_given"
  C_Mark : Addr
  cl_Mark : Cls K C_Mark
  g_Mark : mg "Mark" = some (.ref C_Mark)
  mk_Mark : Mk K C_Mark f_Mark_init
  n_Mark_begin : NoAttr K C_Mark "begin"
  n_Mark_end : NoAttr K C_Mark "end"
  n_Mark_form : NoAttr K C_Mark "form"
  t_NOT_FITTING : Tok
  g_NOT_FITTING : mg "NOT_FITTING" = some (.int 1 t_NOT_FITTING)
  t_NO_SUCH_THING : Tok
  g_NO_SUCH_THING : mg "NO_SUCH_THING" = some (.int 2 t_NO_SUCH_THING)
  t_TOO_MANY_THINGS : Tok
  g_TOO_MANY_THINGS : mg "TOO_MANY_THINGS" = some (.int 5 t_TOO_MANY_THINGS)
  t_NO_RIGHT_FORM : Tok
  g_NO_RIGHT_FORM : mg "NO_RIGHT_FORM" = some (.int 6 t_NO_RIGHT_FORM)
  t_NOTHING_TO_UNDO : Tok
  g_NOTHING_TO_UNDO : mg "NOTHING_TO_UNDO" = some (.int 7 t_NOTHING_TO_UNDO)
  t_HIGHEST_WORD : Tok
  g_HIGHEST_WORD : mg "HIGHEST_WORD" = some (.int 999 t_HIGHEST_WORD)
  t_MOST_FORM_WORDS : Tok
  g_MOST_FORM_WORDS : mg "MOST_FORM_WORDS" = some (.int 4 t_MOST_FORM_WORDS)
  t_MOST_SENTENCE_WORDS : Tok
  g_MOST_SENTENCE_WORDS : mg "MOST_SENTENCE_WORDS" = some (.int 16 t_MOST_SENTENCE_WORDS)
  t_BEST : Tok
  g_BEST : mg "BEST" = some (.int 0 t_BEST)
  t_ALLOWED : Tok
  g_ALLOWED : mg "ALLOWED" = some (.int 1 t_ALLOWED)
  t_FORBIDDEN : Tok
  g_FORBIDDEN : mg "FORBIDDEN" = some (.int 2 t_FORBIDDEN)
  t_MOST_THINGS : Tok
  g_MOST_THINGS : mg "MOST_THINGS" = some (.int 8 t_MOST_THINGS)
  t_MOST_SOURCE_FORMS : Tok
  g_MOST_SOURCE_FORMS : mg "MOST_SOURCE_FORMS" = some (.int 3 t_MOST_SOURCE_FORMS)
  t_MOST_TARGET_FORMS : Tok
  g_MOST_TARGET_FORMS : mg "MOST_TARGET_FORMS" = some (.int 4 t_MOST_TARGET_FORMS)
  t_MOST_CHECKED_MARKS : Tok
  g_MOST_CHECKED_MARKS : mg "MOST_CHECKED_MARKS" = some (.int 7 t_MOST_CHECKED_MARKS)
  t_THING : Tok
  g_THING : mg "THING" = some (.int 0 t_THING)
  t_GONE : Tok
  g_GONE : mg "GONE" = some (.int 1 t_GONE)
  t_MARKS : Tok
  g_MARKS : mg "MARKS" = some (.int 2 t_MARKS)
  t_CHECK : Tok
  g_CHECK : mg "CHECK" = some (.int 3 t_CHECK)
  t_DOUBLES : Tok
  g_DOUBLES : mg "DOUBLES" = some (.int 4 t_DOUBLES)
  t_BEST_FORM : Tok
  g_BEST_FORM : mg "BEST_FORM" = some (.int 5 t_BEST_FORM)
  t_THINGS : Tok
  g_THINGS : mg "THINGS" = some (.int 6 t_THINGS)
  t_UNDO : Tok
  g_UNDO : mg "UNDO" = some (.int 7 t_UNDO)
  t_NAMED : Tok
  g_NAMED : mg "NAMED" = some (.int 8 t_NAMED)
  z_all : mg "all" = none
  z_any : mg "any" = none
  z_enumerate : mg "enumerate" = none
  z_len : mg "len" = none
  z_list : mg "list" = none
  z_max : mg "max" = none
  z_min : mg "min" = none
  z_range : mg "range" = none
  z_reversed : mg "reversed" = none
  z_set : mg "set" = none
  z_tuple : mg "tuple" = none
end Rn
set_option Elab.async false
set_option maxRecDepth 100000
set_option maxHeartbeats 4000000
namespace Rn
open PySem PySem.Spec PyProof.Rows L2
/-- all but d is kept -/
def ExB (d : Addr) (H H' : Hp) : Prop := ∀ b o, b ≠ d → H b = some o → H' b = some o
theorem ExB.of {d : Addr} {H H' : Hp} (e : Same H H') : ExB d H H' := fun b o _ h => e b o h
theorem ExB.upd {d : Addr} {H : Hp} {o : HO} : ExB d H (upd H d o) := fun b u hb h => by
  rw [upd_ne hb]
  exact h
theorem ExB.trans {d : Addr} {H H1 H2 : Hp} (a : ExB d H H1) (b : ExB d H1 H2) : ExB d H H2 := fun c o hc h => b c o hc (a c o hc h)
theorem ExB.same {d : Addr} {H H1 : Hp} (a : ExB d H H1) (hd : H d = none) : Same H H1 := fun c o h => a c o (ne_of_none h hd) h
theorem paired_snoc {α β : Type} {F : α → β → Prop} : ∀ {l : List α} {m : List β} {x : α} {y : β}, Paired F l m → F x y → Paired F (l ++ [x]) (m ++ [y])
  | _, _, _, _, .nil, h => .cons h .nil
  | _, _, _, _, .cons r t, h => .cons r (paired_snoc t h)
theorem paired_get {α β : Type} {F : α → β → Prop} : ∀ {l : List α} {m : List β} {i : Nat} {x : α} {y : β}, Paired F l m → l[i]? = some x → m[i]? = some y → F x y
  | _, _, i, _, _, .nil, h, _ => by simp at h
  | _, _, 0, _, _, .cons r _, h, k => by
    cases h
    cases k
    exact r
  | _, _, i + 1, _, _, .cons _ t, h, k => paired_get (i := i) t (by simpa using h) (by simpa using k)
theorem paired_eq {α β : Type} {f : α → β} : ∀ {l : List α} {m : List β}, Paired (fun x y => y = f x) l m → m = l.map f
  | _, _, .nil => rfl
  | _, _, .cons r t => by
    rw [paired_eq t, r]
    rfl
theorem filter_take {α : Type} {p : α → Bool} {l : List α} {i : Nat} {x : α} (h : l[i]? = some x) : (l.take (i + 1)).filter p = (l.take i).filter p ++ (if p x = true then [x] else []) := by
  rw [take_more h, List.filter_append]
  congr 1
  rw [List.filter_cons]
  split <;> rfl

section
variable {K : PySem.W.Frag} {a : Addr} {g : TG} {tt : TT} {te : TE} {vs : List Nat} {σ : L2.St} {H1 : Hp} {D : Addr} {Qd : Hp → Prop}
/-- what a comprehension's turn is asked: over z, from any heap that keeps H1 and holds the list made so far at D -/
def CTurn {α : Type} (g : TG) (tt : TT) (te : TE) (vs : List Nat) (σ : L2.St) (H1 : Hp) (D : Addr) (enc : α → V) (keep : α → Bool) (R : α → V → Hp → Prop) (z : α) : Prop :=
  ∀ (H' : Hp) (acc : List V), Same H1 H' → H' D = some (.lst acc) → ∀ (N1 : V → Hp → Prop) (N0 : Hp → Prop),
    (keep z = true → ∀ y H'', Same H' H'' → R z y H'' → N1 y H'') → (keep z = false → ∀ H'', Same H' H'' → N0 H'') →
    g (enc z) (wipe σ vs) H' fun σ2 H2 => wipe σ2 vs = wipe σ vs ∧ tt σ2 H2 fun b H3 => if b = true then te σ2 H3 N1 else N0 H3
/-- a comprehension over a list of data -/
theorem lc_data {α : Type} (zs : List α) (enc : α → V) (keep : α → Bool) (R : α → V → Hp → Prop) (hD : H1 D = none) (hz : zs.length ≤ 1000000) (hl : SqL K H1 a (zs.map enc))
    (mono : ∀ z y H' H'', ExB D H' H'' → R z y H' → R z y H'')
    (turn : ∀ z ∈ zs, CTurn g tt te vs σ H1 D enc keep R z)
    (hd : ∀ H2 ys, Same H1 H2 → H2 D = some (.lst ys) → Paired (fun z y => R z y H2) (zs.filter keep) ys → Qd H2) :
    ∃ W : Nat → Nat → Hp → Prop, (∃ m, W 0 m (upd H1 D (.lst []))) ∧ ∀ i m H, W i m H →
      ((Itl K a).stop i H ∧ Qd H) ∨ ((Itl K a).go i H ∧ ∃ Nx : Hp → Prop, (∀ H', Nx H' → ∃ m', m' < m ∧ W (i + 1) m' H') ∧ ∀ x H', (Itl K a).yld i H x H' → g x (wipe σ vs) H' fun σ2 H2 => wipe σ2 vs = wipe σ vs ∧ tt σ2 H2 fun b H3 =>
        if b = true then te σ2 H3 fun y H4 => ∃ acc, H4 D = some (.lst acc) ∧ acc.length < sizeLine ∧ Nx (upd H4 D (.lst (acc ++ [y]))) else Nx H3) := by
  refine lc_list (K := K) (a := a) (xs := zs.map enc) (fun i H' => Same H1 H' ∧ ∃ ys, H' D = some (.lst ys) ∧ ys.length ≤ i ∧ Paired (fun z y => R z y H') ((zs.take i).filter keep) ys) ?_ ?_ ?_ ?_
  · exact ⟨Ex.new hD, [], upd_same, Nat.le_refl _, .nil⟩
  · exact fun i H' _ ⟨e, _⟩ => e.seq hl
  · rintro i x H' hx ⟨e, ys, hy, hle, hp⟩
    obtain ⟨z, hz', rfl⟩ := at_map hx
    have hi : i < zs.length := (List.getElem?_eq_some_iff.mp hz').1
    refine turn z (List.mem_of_getElem? hz') H' ys e hy _ _ (fun hk y H'' e2 hr => ?_) (fun hk H'' e2 => ?_)
    · refine ⟨ys, e2 _ _ hy, Nat.lt_of_le_of_lt (Nat.le_trans hle (Nat.le_of_lt (Nat.lt_of_lt_of_le hi hz))) (by decide), Ex.mut (e.trans e2) hD, ys ++ [y], upd_same, ?_, ?_⟩
      · rw [List.length_append, List.length_singleton]
        omega
      · rw [filter_take hz', if_pos hk]
        refine paired_snoc (Paired.mapP hp fun z y r => ?_) ?_
        · exact mono z y _ _ ((ExB.of e2).trans ExB.upd) r
        · exact mono z y _ _ ExB.upd hr
    · refine ⟨e.trans e2, ys, e2 _ _ hy, by omega, ?_⟩
      rw [filter_take hz', if_neg (by rw [hk]; decide), List.append_nil]
      exact Paired.mapP hp fun z y r => mono z y _ _ (ExB.of e2) r
  · rintro H' ⟨e, ys, hy, hle, hp⟩
    rw [List.length_map, List.take_length] at hp
    exact hd H' ys e hy hp
/-- .. over a tuple -/
theorem lc_dataT {α : Type} (zs : List α) (enc : α → V) (keep : α → Bool) (R : α → V → Hp → Prop) (hD : H1 D = none) (hz : zs.length ≤ 1000000) (hl : SqT K H1 a (zs.map enc))
    (mono : ∀ z y H' H'', ExB D H' H'' → R z y H' → R z y H'')
    (turn : ∀ z ∈ zs, CTurn g tt te vs σ H1 D enc keep R z)
    (hd : ∀ H2 ys, Same H1 H2 → H2 D = some (.lst ys) → Paired (fun z y => R z y H2) (zs.filter keep) ys → Qd H2) :
    ∃ W : Nat → Nat → Hp → Prop, (∃ m, W 0 m (upd H1 D (.lst []))) ∧ ∀ i m H, W i m H →
      ((Itt K a).stop i H ∧ Qd H) ∨ ((Itt K a).go i H ∧ ∃ Nx : Hp → Prop, (∀ H', Nx H' → ∃ m', m' < m ∧ W (i + 1) m' H') ∧ ∀ x H', (Itt K a).yld i H x H' → g x (wipe σ vs) H' fun σ2 H2 => wipe σ2 vs = wipe σ vs ∧ tt σ2 H2 fun b H3 =>
        if b = true then te σ2 H3 fun y H4 => ∃ acc, H4 D = some (.lst acc) ∧ acc.length < sizeLine ∧ Nx (upd H4 D (.lst (acc ++ [y]))) else Nx H3) := by
  refine lc_tup (K := K) (a := a) (xs := zs.map enc) (fun i H' => Same H1 H' ∧ ∃ ys, H' D = some (.lst ys) ∧ ys.length ≤ i ∧ Paired (fun z y => R z y H') ((zs.take i).filter keep) ys) ?_ ?_ ?_ ?_
  · exact ⟨Ex.new hD, [], upd_same, Nat.le_refl _, .nil⟩
  · exact fun i H' _ ⟨e, _⟩ => Ex.tup e hl
  · rintro i x H' hx ⟨e, ys, hy, hle, hp⟩
    obtain ⟨z, hz', rfl⟩ := at_map hx
    have hi : i < zs.length := (List.getElem?_eq_some_iff.mp hz').1
    refine turn z (List.mem_of_getElem? hz') H' ys e hy _ _ (fun hk y H'' e2 hr => ?_) (fun hk H'' e2 => ?_)
    · refine ⟨ys, e2 _ _ hy, Nat.lt_of_le_of_lt (Nat.le_trans hle (Nat.le_of_lt (Nat.lt_of_lt_of_le hi hz))) (by decide), Ex.mut (e.trans e2) hD, ys ++ [y], upd_same, ?_, ?_⟩
      · rw [List.length_append, List.length_singleton]
        omega
      · rw [filter_take hz', if_pos hk]
        refine paired_snoc (Paired.mapP hp fun z y r => ?_) ?_
        · exact mono z y _ _ ((ExB.of e2).trans ExB.upd) r
        · exact mono z y _ _ ExB.upd hr
    · refine ⟨e.trans e2, ys, e2 _ _ hy, by omega, ?_⟩
      rw [filter_take hz', if_neg (by rw [hk]; decide), List.append_nil]
      exact Paired.mapP hp fun z y r => mono z y _ _ (ExB.of e2) r
  · rintro H' ⟨e, ys, hy, hle, hp⟩
    rw [List.length_map, List.take_length] at hp
    exact hd H' ys e hy hp
/-- the items are plain values -/
theorem turn_val {α : Type} {enc : α → V} {z : α} {out : α → V}
    (h : ∀ H', Same H1 H' → ∀ N1 : V → Hp → Prop, (∀ H'', Same H' H'' → N1 (out z) H'') → g (enc z) (wipe σ vs) H' fun σ2 H2 => wipe σ2 vs = wipe σ vs ∧ tt σ2 H2 fun b H3 => b = true ∧ te σ2 H3 N1) (mg : ∀ x σ H (Q Q' : L2.St → Hp → Prop), (∀ σ H, Q σ H → Q' σ H) → g x σ H Q → g x σ H Q')
    (mt : ∀ σ H (Q Q' : Bool → Hp → Prop), (∀ b H, Q b H → Q' b H) → tt σ H Q → tt σ H Q') :
    CTurn g tt te vs σ H1 D enc (fun _ => true) (fun z y _ => y = out z) z := by
  intro H' acc e hD N1 N0 h1 h0
  refine mg _ _ _ _ _ (fun σ2 H2 q => ⟨q.1, mt _ _ _ _ (fun b H3 q => ?_) q.2⟩) (h H' e N1 fun H'' e2 => h1 rfl _ H'' e2 rfl)
  obtain ⟨rfl, q⟩ := q
  exact if_true_of rfl q
end
theorem filter_true {α : Type} : ∀ (l : List α), l.filter (fun _ => true) = l
  | [] => rfl
  | x :: l => by rw [List.filter_cons, if_pos rfl, filter_true l]
/-- what is read as a list or a tuple -/
def Sq (K : PySem.W.Frag) (H : Hp) (a : Addr) (xs : List V) : Prop := SqL K H a xs ∨ SqT K H a xs
theorem Sq.ex {K : PySem.W.Frag} {H H' : Hp} {a : Addr} {xs : List V} (e : Same H H') (h : Sq K H a xs) : Sq K H' a xs := by
  rcases h with h | h
  · exact .inl (e.seq h)
  · exact .inr (Ex.tup e h)
end Rn
set_option Elab.async false
set_option maxRecDepth 100000
set_option maxHeartbeats 4000000
namespace Rn
open PySem PySem.Spec PyProof.Rows L2
section
variable {P : Program} {w : World} {K : PySem.W.Frag} {mg : Str → Option Value} {base : Heap}
/-! ### refusals, words -/
def sp_refusal : Sp := fun vs H Q _ => ∃ i : Int, vs = [.int i] ∧ ∀ H' p, Same H H' → H p = none → H' p = some (.lst [.int (-i)]) → Q (.ref p) H'
theorem ok_refusal (T : Txt K mg) : FnOk P w K mg base CX0 1 T.f_refusal T.fd_refusal ["cause"] sp_refusal := by
  refine T.F_refusal.ok sc_refusal (fun vs H Q E h => ?_) (fun cdv A outer s H vs Q E hr h => ?_)
  · obtain ⟨i, rfl, _⟩ := h
    rfl
  · obtain ⟨i, rfl, k⟩ := h
    refine ⟨_, (pss_one (ps_ret (pe_lst (pa_cons (pe_un un_neg (pv 0)) pa_nil)))), ?_⟩
    exact ⟨_, rfl, _, rfl, (by show 1 ≤ sizeLine; decide), fun p hp => k _ p (Ex.new hp) hp upd_same⟩

def okWord (ws : List Nat) : Bool := ws.all fun w => decide (w ≤ 999)
def sp_words_fit (K : PySem.W.Frag) : Sp := fun vs H Q _ => ∃ (a : Addr) (ws : List Nat), vs = [.ref a] ∧ Sq K H a (vI ws) ∧ ws.length ≤ 1000 ∧ ∀ H', Same H H' → Q (.bl (okWord ws)) H'
theorem all_id {α : Type} (p : α → Bool) : ∀ l : List α, (l.map p).all id = l.all p
  | [] => rfl
  | x :: l => by
    rw [List.map_cons, List.all_cons, List.all_cons, all_id p l]
    rfl
theorem any_id {α : Type} (p : α → Bool) : ∀ l : List α, (l.map p).any id = l.any p
  | [] => rfl
  | x :: l => by
    rw [List.map_cons, List.any_cons, List.any_cons, any_id p l]
    rfl
theorem le_999 (n : Nat) : decide ((n : Int) ≤ 999) = decide (n ≤ 999) := by
  by_cases h : n ≤ 999
  · rw [decide_eq_true h, decide_eq_true (by omega)]
  · rw [decide_eq_false h, decide_eq_false (by omega)]
theorem ok_words_fit (T : Txt K mg) : FnOk P w K mg base CX0 1 T.f_words_fit T.fd_words_fit ["words"] (sp_words_fit K) := by
  refine T.F_words_fit.ok sc_words_fit (fun vs H Q E h => ?_) (fun cdv A outer s H vs Q E hr h => ?_)
  · obtain ⟨i, ws, rfl, _⟩ := h
    rfl
  · obtain ⟨a, ws, rfl, hS, hlen, k⟩ := h
    have fin : ∀ D H2 ys, Same H H2 → H2 D = some (.lst ys) → Paired (fun (z : Nat) y => y = V.bl (decide (z ≤ 999))) (ws.filter fun _ => true) ys → ∃ (b : Addr) (bs : List Bool), [V.ref D] = [V.ref b] ∧ SqL K H2 b (bs.map V.bl) ∧ Q (.bl (bs.all id)) H2 := by
      intro D H2 ys e hy hp
      rw [filter_true] at hp
      refine ⟨D, ws.map fun z => decide (z ≤ 999), rfl, ?_, ?_⟩
      · rw [List.map_map]
        have := paired_eq (f := fun (z : Nat) => V.bl (decide (z ≤ 999))) hp
        rw [this] at hy
        exact SqL.of hy
      · rw [all_id]
        exact k _ e
    rcases hS with hS | hS
    · refine ⟨_, (pss_one (ps_ret (pe_callB (cr_all rfl) (by rfl) T.z_all boot_all1 (pa_cons (pe_lc (own := [("word", 1)]) (g := (gName 1)) (by rfl) sc_words_fit.nd (pi_list (pv 0)) (blkOk_by (own := [("word", 1)]) (N := ["words", "word"]) (sc := defScope s_words_fit) (by decide +kernel)) (fun _ _ _ _ _ => (pg_name (i := 1) sc_words_fit.nd rfl (Or.inl rfl))) (fun _ _ _ _ _ => pts_nil) (fun _ _ _ _ _ => (pe_cmpR op_le (pv 1) (pe_glob (v := .int 999) rfl T.g_HIGHEST_WORD ⟨_, rfl⟩) (nomark _)))) pa_nil)))), ?_⟩
      refine ⟨_, rfl, a, rfl, ⟨_, hS⟩, fun D hD => lc_data (K := K) (a := a) ws (fun (n : Nat) => V.int (n : Int)) (fun _ => true) (fun z y _ => y = V.bl (decide (z ≤ 999))) hD (by omega) hS (fun _ _ _ _ _ h => h) (fun z hz H' acc e hy N1 N0 h1 h0 => ?_) (fin D)⟩
      refine ⟨rfl, _, rfl, _, _, rfl, rfl, h1 rfl _ _ (Same.refl _) ?_⟩
      show V.bl (decide ((z : Int) ≤ 999)) = V.bl (decide (z ≤ 999))
      rw [le_999]
    · refine ⟨_, (pss_one (ps_ret (pe_callB (cr_all rfl) (by rfl) T.z_all boot_all1 (pa_cons (pe_lc (own := [("word", 1)]) (g := (gName 1)) (by rfl) sc_words_fit.nd (pi_tup (pv 0)) (blkOk_by (own := [("word", 1)]) (N := ["words", "word"]) (sc := defScope s_words_fit) (by decide +kernel)) (fun _ _ _ _ _ => (pg_name (i := 1) sc_words_fit.nd rfl (Or.inl rfl))) (fun _ _ _ _ _ => pts_nil) (fun _ _ _ _ _ => (pe_cmpR op_le (pv 1) (pe_glob (v := .int 999) rfl T.g_HIGHEST_WORD ⟨_, rfl⟩) (nomark _)))) pa_nil)))), ?_⟩
      refine ⟨_, rfl, a, rfl, ⟨_, hS⟩, fun D hD => lc_dataT (K := K) (a := a) ws (fun (n : Nat) => V.int (n : Int)) (fun _ => true) (fun z y _ => y = V.bl (decide (z ≤ 999))) hD (by omega) hS (fun _ _ _ _ _ h => h) (fun z hz H' acc e hy N1 N0 h1 h0 => ?_) (fin D)⟩
      refine ⟨rfl, _, rfl, _, _, rfl, rfl, h1 rfl _ _ (Same.refl _) ?_⟩
      show V.bl (decide ((z : Int) ≤ 999)) = V.bl (decide (z ≤ 999))
      rw [le_999]

def sp_is_form (K : PySem.W.Frag) : Sp := fun vs H Q _ => ∃ (a : Addr) (ws : List Nat), vs = [.ref a] ∧ Sq K H a (vI ws) ∧ ws.length ≤ 1000 ∧ ∀ H', Same H H' → Q (.bl (Ut04.formOk ws)) H'
def sp_is_sentence (K : PySem.W.Frag) : Sp := fun vs H Q _ => ∃ (a : Addr) (ws : List Nat), vs = [.ref a] ∧ Sq K H a (vI ws) ∧ ws.length ≤ 1000 ∧ ∀ H', Same H H' → Q (.bl (Ut04.sentOk ws)) H'
theorem len_le (n m : Nat) : decide ((n : Int) ≤ (m : Int)) = decide (n ≤ m) := by
  by_cases h : n ≤ m
  · rw [decide_eq_true h, decide_eq_true (by omega)]
  · rw [decide_eq_false h, decide_eq_false (by omega)]
theorem ok_is_form (T : Txt K mg) : FnOk P w K mg base CX0 2 T.f_is_form T.fd_is_form ["words"] (sp_is_form K) := by
  have G_words_fit : FnOk P w K mg base CX0 1 _ _ _ _ := ok_words_fit T
  refine T.F_is_form.ok sc_is_form (fun vs H Q E h => ?_) (fun cdv A outer s H vs Q E hr h => ?_)
  · obtain ⟨i, ws, rfl, _⟩ := h
    rfl
  · obtain ⟨a, ws, rfl, hS, hlen, k⟩ := h
    refine ⟨_, (pss_one (ps_ret (pe_and (pe_chain op_le op_le pe_int (pe_callB call_len_seq (by rfl) T.z_len PySem.boot_len (pa_cons (pv 0) pa_nil)) (pe_glob (v := .int 4) rfl T.g_MOST_FORM_WORDS ⟨_, rfl⟩)) (pe_one (pe_call G_words_fit (hr.mono (by decide)) rfl T.g_words_fit T.F_words_fit.kp T.b_words_fit .nil pass0 (pa_cons (pv 0) pa_nil)))))), ?_⟩
    refine ⟨_, rfl, a, _, rfl, hS, _, _, rfl, rfl, _, rfl, ifb (fun c1 => ⟨_, _, rfl, rfl, _, rfl, ifb (fun c2 => ⟨_, rfl, a, ws, rfl, hS, hlen, fun H' e => ?_⟩) (fun c2 => ?_)⟩) (fun c1 => ⟨_, rfl, if_false_of rfl ?_⟩)⟩
    · have e1 : Ut04.formOk ws = okWord ws := by
        unfold Ut04.formOk
        rw [vI_length] at c1 c2
        have d1 := of_decide_eq_true c1
        have d2 := of_decide_eq_true c2
        rw [decide_eq_true (show 1 ≤ ws.length by omega), decide_eq_true (show ws.length ≤ 4 by omega)]
        rfl
      rw [← e1]
      exact k H' e
    · have e1 : Ut04.formOk ws = false := by
        unfold Ut04.formOk
        rw [vI_length] at c2
        have d2 := of_decide_eq_false c2
        rw [decide_eq_false (show ¬ ws.length ≤ 4 by omega), Bool.false_and, Bool.and_false]
      rw [← e1]
      exact k H (Same.refl _)
    · have e1 : Ut04.formOk ws = false := by
        unfold Ut04.formOk
        rw [vI_length] at c1
        have d2 := of_decide_eq_false c1
        rw [decide_eq_false (show ¬ 1 ≤ ws.length by omega), Bool.false_and]
      rw [← e1]
      exact k H (Same.refl _)
theorem ok_is_sentence (T : Txt K mg) : FnOk P w K mg base CX0 2 T.f_is_sentence T.fd_is_sentence ["words"] (sp_is_sentence K) := by
  have G_words_fit : FnOk P w K mg base CX0 1 _ _ _ _ := ok_words_fit T
  refine T.F_is_sentence.ok sc_is_sentence (fun vs H Q E h => ?_) (fun cdv A outer s H vs Q E hr h => ?_)
  · obtain ⟨i, ws, rfl, _⟩ := h
    rfl
  · obtain ⟨a, ws, rfl, hS, hlen, k⟩ := h
    refine ⟨_, (pss_one (ps_ret (pe_and (pe_cmpR op_le (pe_callB call_len_seq (by rfl) T.z_len PySem.boot_len (pa_cons (pv 0) pa_nil)) (pe_glob (v := .int 16) rfl T.g_MOST_SENTENCE_WORDS ⟨_, rfl⟩) (nomark _)) (pe_one (pe_call G_words_fit (hr.mono (by decide)) rfl T.g_words_fit T.F_words_fit.kp T.b_words_fit .nil pass0 (pa_cons (pv 0) pa_nil)))))), ?_⟩
    refine ⟨_, rfl, a, _, rfl, hS, _, _, rfl, rfl, _, rfl, ifb (fun c1 => ⟨_, rfl, a, ws, rfl, hS, hlen, fun H' e => ?_⟩) (fun c1 => ?_)⟩
    · have e1 : Ut04.sentOk ws = okWord ws := by
        unfold Ut04.sentOk
        rw [vI_length] at c1
        have d1 := of_decide_eq_true c1
        rw [decide_eq_true (show ws.length ≤ 16 by omega)]
        rfl
      rw [← e1]
      exact k H' e
    · have e1 : Ut04.sentOk ws = false := by
        unfold Ut04.sentOk
        rw [vI_length] at c1
        have d2 := of_decide_eq_false c1
        rw [decide_eq_false (show ¬ ws.length ≤ 16 by omega), Bool.false_and]
      rw [← e1]
      exact k H (Same.refl _)
/-! ### the reader -/
/-- a reader at r, over the numbers at a, p of them taken -/
def RdAt (T : Txt K mg) (H : Hp) (r a : Addr) (p : Int) : Prop := ∃ dx, H r = some (.ins T.C_NumberReader dx (fs_NumberReader (.ref a) (.int p)))
def sp_NumberReader_init (T : Txt K mg) : Sp := fun vs H Q _ => ∃ (r dx a : Addr), vs = [.ref r, .ref a] ∧ H r = some (.ins T.C_NumberReader dx []) ∧ ∀ H' : Hp, RdAt T H' r a 0 → ExB r H H' → Q .non H'
theorem ok_NumberReader_init (T : Txt K mg) : FnOk P w K mg base CX0 1 T.f_NumberReader_init T.fd_NumberReader_init ["self", "numbers"] (sp_NumberReader_init T) := by
  refine T.F_NumberReader_init.ok sc_NumberReader_init (fun vs H Q E h => ?_) (fun cdv A outer s H vs Q E hr h => ?_)
  · obtain ⟨r, dx, a, rfl, _⟩ := h
    rfl
  · obtain ⟨r, dx, a, rfl, hr0, k⟩ := h
    refine ⟨_, (pss_cons (ps_fld (pv 0) (pv 1) rfl)
      (pss_one (ps_fld (pv 0) pe_int rfl))), ?_⟩
    refine ⟨_, rfl, _, rfl, r, T.C_NumberReader, dx, _, rfl, hr0, T.cl_NumberReader, T.n_NumberReader_numbers, (by show 0 < 1000; decide), ?_⟩
    refine ⟨_, rfl, r, T.C_NumberReader, dx, _, rfl, upd_same, T.cl_NumberReader, T.n_NumberReader_place, (by rw [in_NumberReader_numbers]; show 1 < 1000; decide), ?_⟩
    refine k _ ⟨dx, ?_⟩ ((ExB.upd).trans ExB.upd)
    rw [upd_same, in_NumberReader_numbers, in_NumberReader_place]
    rfl
def sp_NumberReader_at_end (T : Txt K mg) : Sp := fun vs H Q _ => ∃ (r a : Addr) (p : Nat) (ns : List Nat), vs = [.ref r] ∧ RdAt T H r a p ∧ SqL K H a (vI ns) ∧ Q (.bl (decide (ns.length ≤ p))) H
theorem ok_NumberReader_at_end (T : Txt K mg) : FnOk P w K mg base CX0 1 T.f_NumberReader_at_end T.fd_NumberReader_at_end ["self"] (sp_NumberReader_at_end T) := by
  refine T.F_NumberReader_at_end.ok sc_NumberReader_at_end (fun vs H Q E h => ?_) (fun cdv A outer s H vs Q E hr h => ?_)
  · obtain ⟨r, a, p, ns, rfl, _⟩ := h
    rfl
  · obtain ⟨r, a, p, ns, rfl, ⟨dx, h1⟩, hS, k⟩ := h
    refine ⟨_, (pss_one (ps_ret (pe_cmpR op_ge (pe_fld (pv 0) rfl) (pe_callB call_len_seq (by rfl) T.z_len PySem.boot_len (pa_cons (pe_fld (pv 0) rfl) pa_nil)) (nomark _)))), ?_⟩
    refine ⟨_, rfl, r, _, dx, _, _, rfl, h1, T.cl_NumberReader, T.n_NumberReader_place, lk_NumberReader_place _ _, _, rfl, r, _, dx, _, _, rfl, h1, T.cl_NumberReader, T.n_NumberReader_numbers, lk_NumberReader_numbers _ _, a, _, rfl, .inl hS, _, _, rfl, rfl, ?_⟩
    show Q (V.bl (decide (((vI ns).length : Int) ≤ (p : Int)))) H
    rw [vI_length, len_le]
    exact k
def sp_NumberReader_take (T : Txt K mg) : Sp := fun vs H Q _ => ∃ (r a : Addr) (p : Nat) (ns : List Nat) (n : Nat), vs = [.ref r] ∧ RdAt T H r a p ∧ SqL K H a (vI ns) ∧ ns[p]? = some n ∧
  ∀ H', ExB r H H' → RdAt T H' r a (p + 1 : Nat) → Q (.int (n : Int)) H'
theorem vI_at {ns : List Nat} {p n : Nat} (h : ns[p]? = some n) : (vI ns)[p]? = some (V.int (n : Int)) := by
  unfold vI
  rw [List.getElem?_map, h]
  rfl
theorem ok_NumberReader_take (T : Txt K mg) : FnOk P w K mg base CX0 1 T.f_NumberReader_take T.fd_NumberReader_take ["self"] (sp_NumberReader_take T) := by
  refine T.F_NumberReader_take.ok sc_NumberReader_take (fun vs H Q E h => ?_) (fun cdv A outer s H vs Q E hr h => ?_)
  · obtain ⟨r, a, p, ns, n, rfl, _⟩ := h
    rfl
  · obtain ⟨r, a, p, ns, n, rfl, ⟨dx, h1⟩, hS, hn, k⟩ := h
    refine ⟨_, (pss_cons (ps_set (i := 1) sc_NumberReader_take.nd rfl (Or.inl rfl) (pe_ix ix_list (pe_fld (pv 0) rfl) (pe_fld (pv 0) rfl) (fun _ _ => rfl)))
      (pss_cons (ps_fld (pv 0) (pe_op op_add (pe_fld (pv 0) rfl) pe_int) rfl)
      (pss_one (ps_ret (pv 1))))), ?_⟩
    refine ⟨_, rfl, r, _, dx, _, _, rfl, h1, T.cl_NumberReader, T.n_NumberReader_numbers, lk_NumberReader_numbers _ _, _, rfl, r, _, dx, _, _, rfl, h1, T.cl_NumberReader, T.n_NumberReader_place, lk_NumberReader_place _ _, a, _, _, _, rfl, rfl, hS, atI_nat (vI_at hn), ?_⟩
    refine ⟨_, rfl, r, _, dx, _, _, rfl, h1, T.cl_NumberReader, T.n_NumberReader_place, lk_NumberReader_place _ _, _, _, rfl, rfl, _, rfl, r, _, dx, _, rfl, h1, T.cl_NumberReader, T.n_NumberReader_place, (by show 2 < 1000; decide), _, rfl, ?_⟩
    refine k _ ExB.upd ⟨dx, ?_⟩
    rw [upd_same, pt_NumberReader_place]
    rfl
def sp_NumberReader_take_row (T : Txt K mg) : Sp := fun vs H Q _ => ∃ (r a : Addr) (p : Nat) (ns : List Nat) (n : Nat), vs = [.ref r] ∧ RdAt T H r a p ∧ SqL K H a (vI ns) ∧ ns[p]? = some n ∧ p + 1 + n ≤ ns.length ∧
  ∀ H' l, ExB r H H' → H l = none → RdAt T H' r a (p + 1 + n : Nat) → H' l = some (.lst (vI ((ns.drop (p + 1)).take n))) → Q (.ref l) H'
theorem cut_nat {xs : List V} {i j : Nat} (h1 : i ≤ j) (h2 : j ≤ xs.length) : cutV xs (some (i : Int)) (some (j : Int)) = (xs.drop i).take (j - i) := by
  unfold cutV
  rw [HT.sIx_nat, HT.sIx_nat, Nat.min_eq_left h2, Nat.min_eq_left (Nat.le_trans h1 h2)]
theorem SqL.exB {H H' : Hp} {r a C dx : Addr} {fs : List (Str × V)} {xs : List V} (e : ExB r H H') (h : H r = some (.ins C dx fs)) (hS : SqL K H a xs) : SqL K H' a xs := by
  rcases hS with (q | ⟨o, q⟩) | q
  · exact .inl (.inl (e _ _ (ne_of q h (by intro z; cases z)) q))
  · exact .inl (.inr ⟨o, e _ _ (ne_of q h (by intro z; cases z)) q⟩)
  · exact .inr q
theorem vI_cut (ns : List Nat) (i n : Nat) : ((vI ns).drop i).take n = vI ((ns.drop i).take n) := by
  unfold vI
  rw [List.map_take, List.map_drop]
theorem ok_NumberReader_take_row (T : Txt K mg) : FnOk P w K mg base CX0 2 T.f_NumberReader_take_row T.fd_NumberReader_take_row ["self"] (sp_NumberReader_take_row T) := by
  have G_NumberReader_take : FnOk P w K mg base CX0 1 _ _ _ _ := ok_NumberReader_take T
  refine T.F_NumberReader_take_row.ok sc_NumberReader_take_row (fun vs H Q E h => ?_) (fun cdv A outer s H vs Q E hr h => ?_)
  · obtain ⟨r, a, p, ns, n, rfl, _⟩ := h
    rfl
  · obtain ⟨r, a, p, ns, n, rfl, h1, hS, hn, hle, k⟩ := h
    obtain ⟨dx, h1'⟩ := id h1
    refine ⟨_, (pss_cons (ps_set (i := 1) sc_NumberReader_take_row.nd rfl (Or.inl rfl) (pe_meth0 (pv 0) T.cl_NumberReader T.m_NumberReader_take G_NumberReader_take (hr.mono (by decide)) T.b_NumberReader_take .nil pass0))
      (pss_cons (ps_set (i := 2) sc_NumberReader_take_row.nd rfl (Or.inl rfl) (pe_slice sl_list (pe_fld (pv 0) rfl) (po_some (pe_fld (pv 0) rfl)) (po_some (pe_op op_add (pe_fld (pv 0) rfl) (pv 1)))))
      (pss_cons (ps_fld (pv 0) (pe_op op_add (pe_fld (pv 0) rfl) (pv 1)) rfl)
      (pss_one (ps_ret (pv 2)))))), ?_⟩
    refine ⟨_, rfl, r, dx, _, rfl, h1', no_NumberReader_take _ _, r, a, p, ns, n, rfl, h1, hS, hn, fun H1 e1 h2 => ?_⟩
    have hS1 : SqL K H1 a (vI ns) := SqL.exB e1 h1' hS
    obtain ⟨d2, h2'⟩ := id h2
    refine ⟨_, rfl, r, _, d2, _, _, rfl, h2', T.cl_NumberReader, T.n_NumberReader_numbers, lk_NumberReader_numbers _ _, _, rfl, r, _, d2, _, _, rfl, h2', T.cl_NumberReader, T.n_NumberReader_place, lk_NumberReader_place _ _, _, rfl,
      _, rfl, r, _, d2, _, _, rfl, h2', T.cl_NumberReader, T.n_NumberReader_place, lk_NumberReader_place _ _, _, rfl, _, _, rfl, rfl, _, rfl, a, _, rfl, hS1, fun l hl => ?_⟩
    have nrl : r ≠ l := ne_of_none h2' hl
    refine ⟨_, rfl, r, _, d2, _, _, rfl, (by rw [upd_ne nrl]; exact h2'), T.cl_NumberReader, T.n_NumberReader_place, lk_NumberReader_place _ _, _, rfl, _, _, rfl, rfl, _, rfl, r, _, d2, _, rfl, (by rw [upd_ne nrl]; exact h2'), T.cl_NumberReader, T.n_NumberReader_place, (by show 2 < 1000; decide), _, rfl, ?_⟩
    refine k _ l ?_ ?_ ⟨d2, ?_⟩ ?_
    · intro b o hb hh
      have hb1 := e1 b o hb hh
      rw [upd_ne hb, upd_ne (ne_of_none hb1 hl)]
      exact hb1
    · cases q : H l with
      | none => rfl
      | some o =>
        rw [e1 l o (Ne.symm nrl) q] at hl
        cases hl
    · rw [upd_same, pt_NumberReader_place]
      show some (HO.ins T.C_NumberReader d2 (fs_NumberReader (V.ref a) (V.int (((p + 1 : Nat) : Int) + (n : Int))))) = _
      rw [show (((p + 1 : Nat) : Int) + (n : Int)) = ((p + 1 + n : Nat) : Int) by omega]
    · rw [upd_ne (Ne.symm nrl), upd_same]
      show some (HO.lst (cutV (vI ns) (some ((p + 1 : Nat) : Int)) (some (((p + 1 : Nat) : Int) + (n : Int))))) = _
      rw [show (((p + 1 : Nat) : Int) + (n : Int)) = ((p + 1 + n : Nat) : Int) by omega, cut_nat (by omega) (by rw [vI_length]; exact hle), vI_cut, show p + 1 + n - (p + 1) = n by omega]
end
end Rn
set_option Elab.async false
set_option maxRecDepth 100000
set_option maxHeartbeats 4000000
namespace Rn
open PySem PySem.Spec PyProof.Rows L2
/-! ### forms as data -/
def iD (f : List Nat) : List PyData := f.map fun (n : Nat) => PyData.int (n : Int)
def fD (f : List Nat) : PyData := .tuple (iD f)
theorem iD_eqv : ∀ f g : List Nat, PyData.eqvAll (iD f) (iD g) = decide (f = g)
  | [], [] => by simp [iD, PyData.eqvAll]
  | [], b :: g => by simp [iD, PyData.eqvAll]
  | a :: f, [] => by simp [iD, PyData.eqvAll]
  | a :: f, b :: g => by
    show PyData.eqvAll (PyData.int (a : Int) :: iD f) (PyData.int (b : Int) :: iD g) = _
    simp only [PyData.eqvAll, PyData.eqv, iD_eqv f g]
    by_cases h : a = b
    · subst h
      by_cases k : f = g
      · subst k; simp
      · simp [k]
    · have : ((a : Int) == (b : Int)) = false := beq_eq_false_iff_ne.mpr (by omega)
      rw [this]
      simp [h]
theorem fD_eqv (f g : List Nat) : PyData.eqv (fD f) (fD g) = decide (f = g) := by
  unfold fD
  simp only [PyData.eqv]
  exact iD_eqv f g
theorem iD_lay : ∀ f : List Nat, PyData.canLayAll0 (iD f) = true
  | [] => by simp [iD, PyData.canLayAll0]
  | a :: f => by
    show PyData.canLayAll0 (PyData.int (a : Int) :: iD f) = true
    simp [PyData.canLayAll0, PyData.canLay0, iD_lay f]
theorem iD_depth : ∀ f : List Nat, PyData.depthAll (iD f) ≤ 1
  | [] => by simp [iD, PyData.depthAll]
  | a :: f => by
    show PyData.depthAll (PyData.int (a : Int) :: iD f) ≤ 1
    have := iD_depth f
    simp only [PyData.depthAll, PyData.depth]
    omega
theorem fD_depth (f : List Nat) : (fD f).depth ≤ 2 := by
  have := iD_depth f
  simp only [fD, PyData.depth]
  omega
theorem fD_shaped (f : List Nat) : SeqAt.shaped (fD f) = true := by
  have h := fD_depth f
  show ((fD f).canLay0 && decide ((fD f).depth ≤ 64)) = true
  rw [Bool.and_eq_true]
  refine ⟨?_, decide_eq_true (by omega)⟩
  simp only [fD, PyData.canLay0]
  exact iD_lay f
theorem fDs_lay : ∀ zs : List (List Nat), PyData.canLayAll0 (zs.map fD) = true
  | [] => by simp [PyData.canLayAll0]
  | z :: zs => by
    have e : (fD z).canLay0 = true := by
      simp only [fD, PyData.canLay0]
      exact iD_lay z
    simp [PyData.canLayAll0, e, fDs_lay zs]
theorem fDs_depth : ∀ zs : List (List Nat), PyData.depthAll (zs.map fD) ≤ 2
  | [] => by simp [PyData.depthAll]
  | z :: zs => by
    have h1 := fDs_depth zs
    have h2 := fD_depth z
    simp only [List.map_cons, PyData.depthAll]
    omega
theorem fDs_shaped (zs : List (List Nat)) : SeqAt.shaped (.list (zs.map fD)) = true := by
  have h1 := fDs_depth zs
  have h2 : PyData.depth (.list (zs.map fD)) ≤ 64 := by
    simp only [PyData.depth]
    omega
  show (PyData.canLay0 (.list (zs.map fD)) && decide (PyData.depth (.list (zs.map fD)) ≤ 64)) = true
  rw [Bool.and_eq_true]
  exact ⟨by simp only [PyData.canLay0]; exact fDs_lay zs, decide_eq_true h2⟩
section
variable {K : PySem.W.Frag} {H : Hp}
theorem iD_dp : ∀ f : List Nat, DpAll K H (vI f) (iD f)
  | [] => .nil
  | a :: f => .cons (.int _) (iD_dp f)
theorem fD_dp {a : Addr} {f : List Nat} (h : SqT K H a (vI f)) : Dp K H (.ref a) (fD f) := .tup h (iD_dp f)
theorem fDs_dp : ∀ {zs : List (Addr × List Nat)}, (∀ z ∈ zs, H z.1 = some (.tup (vI z.2))) → DpAll K H (zs.map fun z => V.ref z.1) ((zs.map (·.2)).map fD)
  | [], _ => .nil
  | z :: zs, h => .cons (fD_dp (SqT.of (h z List.mem_cons_self))) (fDs_dp fun y hy => h y (List.mem_cons_of_mem _ hy))
end
theorem any_eqv (fs : List (List Nat)) (f : List Nat) : ((fs.map fD).any fun z => PyData.eqv z (fD f)) = fs.contains f := by
  induction fs with
  | nil => rfl
  | cons g fs ih =>
    rw [List.map_cons, List.any_cons, fD_eqv, ih, List.contains_cons]
    congr 1
    by_cases h : g = f
    · subst h; simp
    · rw [decide_eq_false h]
      exact (beq_eq_false_iff_ne.mpr fun q => h q.symm).symm

/-! ### dicts by forms -/
def stK (l : List (List Nat × Nat)) : List (List Key × V) := l.map fun x => (fK x.1, V.int (x.2 : Int))
theorem valV_stK (f : List Nat) : ∀ l : List (List Nat × Nat), valV (stK l) (fK f) = (l.find? fun x => decide (x.1 = f)).map fun x => V.int (x.2 : Int)
  | [] => rfl
  | x :: l => by
    show valV ((fK x.1, V.int (x.2 : Int)) :: stK l) (fK f) = _
    rw [List.find?_cons]
    by_cases h : x.1 = f
    · rw [decide_eq_true h, valV_pos (by rw [h])]
      rfl
    · rw [decide_eq_false h, valV_neg (fun q => h (fK_inj q)), valV_stK f l]
theorem find_none_of {l : List (List Nat × Nat)} {f : List Nat} (h : f ∉ l.map (·.1)) : (l.find? fun x => decide (x.1 = f)) = none := by
  rw [List.find?_eq_none]
  intro x hx q
  exact h (List.mem_map.mpr ⟨x, hx, of_decide_eq_true q⟩)
theorem putK_stK {l : List (List Nat × Nat)} {f : List Nat} {c : Nat} (h : f ∉ l.map (·.1)) : putK (stK l) (fK f) (.int (c : Int)) = stK (l ++ [(f, c)]) := by
  rw [putK_new _ (by rw [valV_stK, find_none_of h]; rfl)]
  unfold stK
  rw [List.map_append]
  rfl
/-- which forms there are, each at its first place -/
def ky (l : List (List Nat)) : List (List Key × V) := l.map fun f => (fK f, V.bl true)
theorem valV_ky (f : List Nat) : ∀ l : List (List Nat), (valV (ky l) (fK f)).isSome = l.contains f
  | [] => rfl
  | g :: l => by
    show (valV ((fK g, V.bl true) :: ky l) (fK f)).isSome = _
    rw [List.contains_cons]
    by_cases h : g = f
    · rw [valV_pos (by rw [h])]
      subst h
      simp
    · have e : (f == g) = false := beq_eq_false_iff_ne.mpr fun q => h q.symm
      rw [valV_neg (fun q => h (fK_inj q)), valV_ky f l, e, Bool.false_or]
def addF (l : List (List Nat)) (f : List Nat) : List (List Nat) := if l.contains f = true then l else l ++ [f]
theorem putK_ky (l : List (List Nat)) (f : List Nat) : putK (ky l) (fK f) (.bl true) = ky (addF l f) := by
  unfold addF
  split
  · rename_i h
    have hs : (valV (ky l) (fK f)).isSome = true := (valV_ky f l).trans h
    have ha : ((ky l).any fun kv => decide (kv.1 = fK f)) = true := by rw [valV_any]; exact hs
    unfold putK
    rw [if_pos ha]
    unfold ky
    rw [List.map_map]
    refine List.map_congr_left fun g _ => ?_
    show (if fK g = fK f then (fK g, V.bl true) else (fK g, V.bl true)) = _
    split <;> rfl
  · rename_i h
    have hn : valV (ky l) (fK f) = none := by
      cases q : valV (ky l) (fK f) with
      | none => rfl
      | some v =>
        have := valV_ky f l
        rw [q] at this
        exact absurd this.symm h
    rw [putK_new _ hn]
    unfold ky
    rw [List.map_append]
    rfl

/-! ### a thing -/
structure ThOk (t : Ut04.Thing) : Prop where
  nd : (t.targets.map (·.1)).Nodup
  st : ∀ x ∈ t.targets, x.2 ≤ 2
  sn : t.sources.length ≤ 3
  tn : t.targets.length ≤ 4
  sf : ∀ f ∈ t.sources, Ut04.formOk f = true
  tf : ∀ x ∈ t.targets, Ut04.formOk x.1 = true
section
variable {P : Program} {w : World} {K : PySem.W.Frag} {mg : Str → Option Value} {base : Heap}
/-- a list of forms, each a tuple -/
def FormsAt (H : Hp) (l : Addr) (zs : List (Addr × List Nat)) : Prop := H l = some (.lst (zs.map fun z => V.ref z.1)) ∧ ∀ z ∈ zs, H z.1 = some (.tup (vI z.2))
structure ThingAt (T : Txt K mg) (H : Hp) (a : Addr) (t : Ut04.Thing) : Prop where
  ok : ThOk t
  at_ : ∃ (dx ls ds : Addr) (zs : List (Addr × List Nat)), H a = some (.ins T.C_Thing dx (fs_Thing (.int (t.number : Int)) (.ref ls) (.ref ds))) ∧ FormsAt H ls zs ∧ zs.map (·.2) = t.sources ∧ H ds = some (.dT (stK t.targets))
theorem FormsAt.ex {H H' : Hp} {l : Addr} {zs : List (Addr × List Nat)} (e : Same H H') (h : FormsAt H l zs) : FormsAt H' l zs := ⟨e _ _ h.1, fun z hz => e _ _ (h.2 z hz)⟩
theorem ThingAt.ex {T : Txt K mg} {H H' : Hp} {a : Addr} {t : Ut04.Thing} (e : Same H H') (h : ThingAt T H a t) : ThingAt T H' a t := by
  obtain ⟨ok, dx, ls, ds, zs, h1, h2, h3, h4⟩ := h
  exact ⟨ok, dx, ls, ds, zs, e _ _ h1, h2.ex e, h3, e _ _ h4⟩
theorem FormsAt.exB {H H' : Hp} {r l : Addr} {zs : List (Addr × List Nat)} {C dx : Addr} {fs : List (Str × V)} (e : ExB r H H') (hr : H r = some (.ins C dx fs)) (h : FormsAt H l zs) : FormsAt H' l zs :=
  ⟨e _ _ (ne_of h.1 hr (by intro z; cases z)) h.1, fun z hz => e _ _ (ne_of (h.2 z hz) hr (by intro z; cases z)) (h.2 z hz)⟩
/-- an object without source_forms is no thing -/
theorem ThingAt.exB {T : Txt K mg} {H H' : Hp} {r a C dx : Addr} {fs : List (Str × V)} {t : Ut04.Thing} (e : ExB r H H') (hr : H r = some (.ins C dx fs)) (hf : fs.lookup ("source_forms" : Str) = none) (h : ThingAt T H a t) : ThingAt T H' a t := by
  obtain ⟨ok, dx', ls, ds, zs, h1, h2, h3, h4⟩ := h
  refine ⟨ok, dx', ls, ds, zs, e _ _ (ne_of h1 hr fun z => ?_) h1, h2.exB e hr, h3, e _ _ (ne_of h4 hr (by intro z; cases z)) h4⟩
  injection z with _ _ z
  rw [← z, lk_Thing_source_forms] at hf
  cases hf

/-- the list of a thing's target forms as it was told -/
def PairsAt (H : Hp) (l : Addr) (ys : List (Addr × Addr × (List Nat × Nat))) : Prop := H l = some (.lst (ys.map fun y => V.ref y.1)) ∧ ∀ y ∈ ys, H y.1 = some (.tup [.ref y.2.1, .int (y.2.2.2 : Int)]) ∧ H y.2.1 = some (.tup (vI y.2.2.1))
theorem PairsAt.ex {H H' : Hp} {l : Addr} {ys : List (Addr × Addr × (List Nat × Nat))} (e : Same H H') (h : PairsAt H l ys) : PairsAt H' l ys := ⟨e _ _ h.1, fun z hz => ⟨e _ _ (h.2 z hz).1, e _ _ (h.2 z hz).2⟩⟩
theorem PairsAt.exB {H H' : Hp} {r l : Addr} {ys : List (Addr × Addr × (List Nat × Nat))} {C dx : Addr} {fs : List (Str × V)} (e : ExB r H H') (hr : H r = some (.ins C dx fs)) (h : PairsAt H l ys) : PairsAt H' l ys :=
  ⟨e _ _ (ne_of h.1 hr (by intro z; cases z)) h.1, fun z hz => ⟨e _ _ (ne_of (h.2 z hz).1 hr (by intro z; cases z)) (h.2 z hz).1, e _ _ (ne_of (h.2 z hz).2 hr (by intro z; cases z)) (h.2 z hz).2⟩⟩
def sp_Thing_init (T : Txt K mg) : Sp := fun vs H Q _ => ∃ (p dx ls lp : Addr) (n : Nat) (zs : List (Addr × List Nat)) (ys : List (Addr × Addr × (List Nat × Nat))), vs = [.ref p, .int (n : Int), .ref ls, .ref lp] ∧
  H p = some (.ins T.C_Thing dx []) ∧ FormsAt H ls zs ∧ PairsAt H lp ys ∧ ThOk ⟨n, zs.map (·.2), ys.map (·.2.2)⟩ ∧
  ∀ (H' : Hp) (dx' ds : Addr), H' p = some (.ins T.C_Thing dx' (fs_Thing (.int (n : Int)) (.ref ls) (.ref ds))) → H' ds = some (.dT (stK (ys.map (·.2.2)))) → H ds = none → ExB p H H' → Q .non H'
theorem ok_Thing_init (T : Txt K mg) : FnOk P w K mg base CX0 1 T.f_Thing_init T.fd_Thing_init ["self", "number", "source_forms", "target_pairs"] (sp_Thing_init T) := by
  refine T.F_Thing_init.ok sc_Thing_init (fun vs H Q E h => ?_) (fun cdv A outer s H vs Q E hr h => ?_)
  · obtain ⟨p, dx, ls, lp, n, zs, ys, rfl, _⟩ := h
    rfl
  · obtain ⟨p, dx, ls, lp, n, zs, ys, rfl, hp, hz, hy, ok, k⟩ := h
    refine ⟨_, (pss_cons (ps_fld (pv 0) (pv 1) rfl)
      (pss_cons (ps_fld (pv 0) (pv 2) rfl)
      (pss_cons (ps_fld (pv 0) pe_dnewT rfl)
      (pss_one (ps_for PassesOwn.never rfl (pi_list (pv 3)) (pg_tup rfl (pgs_cons (pg_name (i := 4) sc_Thing_init.nd rfl (Or.inl rfl)) (pgs_cons (pg_name (i := 5) sc_Thing_init.nd rfl (Or.inl rfl)) pgs_nil)))
      (pss_one (ps_dput (hu_of hr) (pe_fld (pv 0) rfl) (pv 4) (pv 5) rfl))))))), ?_⟩
    refine ⟨_, rfl, _, rfl, p, T.C_Thing, dx, _, rfl, hp, T.cl_Thing, T.n_Thing_number, (by show 0 < 1000; decide), ?_⟩
    refine ⟨_, rfl, _, rfl, p, T.C_Thing, dx, _, rfl, upd_same, T.cl_Thing, T.n_Thing_source_forms, (by rw [in_Thing_number]; show 1 < 1000; decide), ?_⟩
    intro ds hds
    have npd : p ≠ ds := by
      intro q
      rw [← q, upd_same] at hds
      cases hds
    refine ⟨_, rfl, p, T.C_Thing, dx, _, rfl, (by rw [upd_ne npd]; exact upd_same), T.cl_Thing, T.n_Thing_standings, (by rw [in_Thing_number, in_Thing_source_forms]; show 2 < 1000; decide), ?_⟩
    rw [in_Thing_number, in_Thing_source_forms, in_Thing_standings]
    have hds0 : H ds = none := by
      rw [upd_ne (Ne.symm npd), upd_ne (Ne.symm npd)] at hds
      exact hds
    generalize hH1 : upd (upd (upd (upd H p _) p _) ds _) p _ = H1
    have e1 : ∀ b o, b ≠ p → H b = some o → H1 b = some o := by
      intro b o hb hh
      rw [← hH1, upd_ne hb, upd_ne (ne_of_none hh hds0), upd_ne hb, upd_ne hb]
      exact hh
    have hp1 : H1 p = some (.ins T.C_Thing dx (fs_Thing (.int (n : Int)) (.ref ls) (.ref ds))) := by
      rw [← hH1]
      exact upd_same
    have hd1 : H1 ds = some (.dT []) := by
      rw [← hH1, upd_ne (Ne.symm npd)]
      exact upd_same
    have hy1 : PairsAt H1 lp ys := hy.exB e1 hp
    have hz1 : FormsAt H1 ls zs := hz.exB e1 hp
    refine ⟨_, rfl, lp, rfl, ⟨_, SqL.of hy1.1⟩, for_it (walk_list (K := K) (a := lp) (xs := ys.map fun y => V.ref y.1)) (fun i σ H' => ∃ v4 v5 : Option V, σ = [some (.ref p), some (.int (n : Int)), some (.ref ls), some (.ref lp), v4, v5] ∧ ExB ds H1 H' ∧ H' ds = some (.dT (stK ((ys.map (·.2.2)).take i))))
      ⟨none, none, rfl, ExB.of (Same.refl _), hd1⟩ (fun i σ H' _ ⟨_, _, _, e5, _⟩ => SqL.of (e5 _ _ (ne_of hy1.1 hd1 (by intro z; cases z)) hy1.1)) ?_ ?_⟩
    · rintro i x σ H' H2 hi ⟨v4, v5, rfl, e5, d5⟩ ⟨rfl, hx⟩
      obtain ⟨y, hy', rfl⟩ := at_map hx
      have hm := List.mem_of_getElem? hy'
      obtain ⟨t1, t2⟩ := hy1.2 y hm
      have t1' := e5 _ _ (ne_of t1 hd1 (by intro z; cases z)) t1
      have t2' := e5 _ _ (ne_of t2 hd1 (by intro z; cases z)) t2
      have hp' := e5 _ _ (ne_of hp1 hd1 (by intro z; cases z)) hp1
      have hat : (ys.map (·.2.2))[i]? = some y.2.2 := by rw [List.getElem?_map, hy']; rfl
      have hlt : i < (ys.map (·.2.2)).length := (List.getElem?_eq_some_iff.mp hat).1
      have hnew : y.2.2.1 ∉ ((ys.map (·.2.2)).take i).map (·.1) := by
        intro hmem
        have nd := ok.nd
        have hsplit : (ys.map (·.2.2)).map (·.1) = ((ys.map (·.2.2)).take i).map (·.1) ++ ((ys.map (·.2.2)).drop i).map (·.1) := by rw [← List.map_append, List.take_append_drop]
        rw [show (Ut04.Thing.mk n (zs.map (·.2)) (ys.map (·.2.2))).targets = ys.map (·.2.2) from rfl, hsplit, List.nodup_append] at nd
        refine nd.2.2 _ hmem y.2.2.1 ?_ rfl
        rw [List.drop_eq_getElem_cons hlt, List.map_cons]
        have e : (ys.map (·.2.2))[i] = y.2.2 := (List.getElem?_eq_some_iff.mp hat).2
        rw [e]
        exact List.mem_cons_self
      refine ⟨_, _, rfl, SqT.of t1', rfl, _, _, rfl, _, _, rfl, rfl, _, rfl, _, rfl, p, T.C_Thing, dx, _, _, rfl, hp', T.cl_Thing, T.n_Thing_standings, lk_Thing_standings _ _ _, _, rfl, ds, _, rfl, DPut.t (k := fK y.2.2.1) d5 (by rw [fK_kV]; exact t2') ?_, ?_⟩
      · have : (stK ((ys.map (·.2.2)).take i)).length ≤ 4 := by
          unfold stK
          rw [List.length_map]
          have := ok.tn
          have h5 : (ys.map (·.2.2)).length ≤ 4 := this
          have h6 := List.length_take_le i (ys.map (·.2.2))
          have h7 := List.length_take_le' i (ys.map (·.2.2))
          omega
        exact Nat.lt_of_le_of_lt this (by decide)
      · refine ⟨_, _, rfl, e5.trans ExB.upd, ?_⟩
        rw [upd_same, putK_stK hnew, take_more hat]
    · rintro σ H' ⟨v4, v5, rfl, e5, d5⟩
      rw [List.length_map] at d5
      have e6 : (ys.map (·.2.2)).take ys.length = ys.map (·.2.2) := by rw [List.take_of_length_le]; rw [List.length_map]; exact Nat.le_refl _
      rw [e6] at d5
      have nz : ∀ b o, H1 b = some o → (∀ kvs, o ≠ .dT kvs) → H' b = some o := fun b o hh hn => e5 b o (ne_of hh hd1 (hn _)) hh
      refine k H' dx ds (nz _ _ hp1 (by intro _ z; cases z)) d5 hds0 ?_
      intro b o hb hh
      exact e5 b o (ne_of_none hh hds0) (e1 b o hb hh)
end
end Rn
set_option Elab.async false
set_option maxRecDepth 100000
set_option maxHeartbeats 4000000
set_option linter.unusedVariables false
namespace Rn
open PySem PySem.Spec PyProof.Rows L2
def meant (t : Ut04.Thing) (f : List Nat) : Bool := t.sources.contains f
def served (t : Ut04.Thing) (f : List Nat) : Bool := t.targets.any fun x => x.1 == f && x.2 != 2
def forb (t : Ut04.Thing) (f : List Nat) : Bool := t.targets.any fun x => x.1 == f && x.2 == 2
theorem any_find {p : Nat → Bool} {f : List Nat} : ∀ {l : List (List Nat × Nat)}, (l.map (·.1)).Nodup → (l.any fun x => x.1 == f && p x.2) = match l.find? fun x => decide (x.1 = f) with
    | some x => p x.2
    | none => false
  | [], _ => rfl
  | x :: l, h => by
    rw [List.map_cons, List.nodup_cons] at h
    rw [List.any_cons, List.find?_cons]
    by_cases c : x.1 = f
    · rw [decide_eq_true c]
      have e : (l.any fun x => x.1 == f && p x.2) = false := by
        rw [List.any_eq_false]
        intro y hy q
        rw [Bool.and_eq_true, beq_iff_eq] at q
        exact h.1 (List.mem_map.mpr ⟨y, hy, q.1.trans c.symm⟩)
      rw [e, Bool.or_false, beq_iff_eq.mpr c, Bool.true_and]
    · rw [decide_eq_false c, beq_eq_false_iff_ne.mpr c, Bool.false_and, Bool.false_or]
      exact any_find h.2
section
variable {P : Program} {w : World} {K : PySem.W.Frag} {mg : Str → Option Value} {base : Heap}
def sp_Thing_is_meant_by (T : Txt K mg) : Sp := fun vs H Q _ => ∃ (a b : Addr) (t : Ut04.Thing) (f : List Nat), vs = [.ref a, .ref b] ∧ ThingAt T H a t ∧ H b = some (.tup (vI f)) ∧ Q (.bl (meant t f)) H
theorem ok_Thing_is_meant_by (T : Txt K mg) : FnOk P w K mg base CX0 1 T.f_Thing_is_meant_by T.fd_Thing_is_meant_by ["self", "form"] (sp_Thing_is_meant_by T) := by
  refine T.F_Thing_is_meant_by.ok sc_Thing_is_meant_by (fun vs H Q E h => ?_) (fun cdv A outer s H vs Q E hr h => ?_)
  · obtain ⟨a, b, t, f, rfl, _⟩ := h
    rfl
  · obtain ⟨a, b, t, f, rfl, ⟨ok, dx, ls, ds, zs, h1, h2, h3, h4⟩, hb, k⟩ := h
    refine ⟨_, (pss_one (ps_ret (pe_cmpR (op_inD (hu65 hr)) (pv 1) (pe_fld (pv 0) rfl) (by rfl)))), ?_⟩
    refine ⟨_, rfl, _, rfl, a, _, dx, _, _, rfl, h1, T.cl_Thing, T.n_Thing_source_forms, lk_Thing_source_forms _ _ _, fD f, (zs.map (·.2)).map fD, fD_dp (SqT.of hb), .lst (SqL.of h2.1) (fDs_dp h2.2), fD_shaped f, fDs_shaped _, ?_⟩
    rw [any_eqv, h3]
    exact k
def sp_Thing_is_served_by (T : Txt K mg) : Sp := fun vs H Q _ => ∃ (a b : Addr) (t : Ut04.Thing) (f : List Nat), vs = [.ref a, .ref b] ∧ ThingAt T H a t ∧ H b = some (.tup (vI f)) ∧ Q (.bl (served t f)) H
theorem find_le {l : List (List Nat × Nat)} {f : List Nat} {x : List Nat × Nat} (h : (l.find? fun x => decide (x.1 = f)) = some x) : x ∈ l := List.mem_of_find?_eq_some h
theorem ok_Thing_is_served_by (T : Txt K mg) : FnOk P w K mg base CX0 1 T.f_Thing_is_served_by T.fd_Thing_is_served_by ["self", "form"] (sp_Thing_is_served_by T) := by
  refine T.F_Thing_is_served_by.ok sc_Thing_is_served_by (fun vs H Q E h => ?_) (fun cdv A outer s H vs Q E hr h => ?_)
  · obtain ⟨a, b, t, f, rfl, _⟩ := h
    rfl
  · obtain ⟨a, b, t, f, rfl, ⟨ok, dx, ls, ds, zs, h1, h2, h3, h4⟩, hb, k⟩ := h
    have g : DGet H ds (.ref b) (valV (stK t.targets) (fK f)) := DGet.t h4 (by rw [fK_kV]; exact hb)
    rw [valV_stK] at g
    have e : served t f = match t.targets.find? fun x => decide (x.1 = f) with
        | some x => x.2 != 2
        | none => false := any_find (p := fun c => c != 2) ok.nd
    rw [e] at k
    refine ⟨_, (pss_one (ps_ret (pe_and (pe_cmp (pc_din (hu_of hr) (pv 1) (pe_fld (pv 0) rfl))) (pe_one (pe_cmpR op_lt (pe_dget (hu_of hr) (pe_fld (pv 0) rfl) (pv 1) (fun _ _ => rfl)) (pe_glob (v := .int 2) rfl T.g_FORBIDDEN ⟨_, rfl⟩) (nomark _)))))), ?_⟩
    cases q : t.targets.find? (fun x => decide (x.1 = f)) with
    | none =>
      rw [q] at g k
      exact ⟨_, rfl, _, rfl, a, _, dx, _, _, rfl, h1, T.cl_Thing, T.n_Thing_standings, lk_Thing_standings _ _ _, ds, _, rfl, g, false, rfl, k⟩
    | some x =>
      rw [q] at g k
      refine ⟨_, rfl, _, rfl, a, _, dx, _, _, rfl, h1, T.cl_Thing, T.n_Thing_standings, lk_Thing_standings _ _ _, ds, _, rfl, g, true, rfl, _, rfl, a, _, dx, _, _, rfl, h1, T.cl_Thing, T.n_Thing_standings, lk_Thing_standings _ _ _, _, rfl, ds, _, rfl, g, _, _, rfl, rfl, ?_⟩
      have hx := ok.st x (find_le q)
      have e2 : decide ((x.2 : Int) < 2) = (x.2 != 2) := by
        by_cases c : x.2 = 2
        · rw [decide_eq_false (by omega), c]
          rfl
        · rw [decide_eq_true (by omega)]
          exact (bne_iff_ne.mpr c).symm
      show Q (V.bl (decide ((x.2 : Int) < 2))) H
      rw [e2]
      exact k
def sp_Thing_forbids (T : Txt K mg) : Sp := fun vs H Q _ => ∃ (a b : Addr) (t : Ut04.Thing) (f : List Nat), vs = [.ref a, .ref b] ∧ ThingAt T H a t ∧ H b = some (.tup (vI f)) ∧ Q (.bl (forb t f)) H
theorem ok_Thing_forbids (T : Txt K mg) : FnOk P w K mg base CX0 1 T.f_Thing_forbids T.fd_Thing_forbids ["self", "form"] (sp_Thing_forbids T) := by
  refine T.F_Thing_forbids.ok sc_Thing_forbids (fun vs H Q E h => ?_) (fun cdv A outer s H vs Q E hr h => ?_)
  · obtain ⟨a, b, t, f, rfl, _⟩ := h
    rfl
  · obtain ⟨a, b, t, f, rfl, ⟨ok, dx, ls, ds, zs, h1, h2, h3, h4⟩, hb, k⟩ := h
    have g : DGet H ds (.ref b) (valV (stK t.targets) (fK f)) := DGet.t h4 (by rw [fK_kV]; exact hb)
    rw [valV_stK] at g
    have e : forb t f = match t.targets.find? fun x => decide (x.1 = f) with
        | some x => x.2 == 2
        | none => false := any_find (p := fun c => c == 2) ok.nd
    rw [e] at k
    refine ⟨_, (pss_one (ps_ret (pe_and (pe_cmp (pc_din (hu_of hr) (pv 1) (pe_fld (pv 0) rfl))) (pe_one (pe_cmpR op_eq (pe_dget (hu_of hr) (pe_fld (pv 0) rfl) (pv 1) (fun _ _ => rfl)) (pe_glob (v := .int 2) rfl T.g_FORBIDDEN ⟨_, rfl⟩) (nomark _)))))), ?_⟩
    cases q : t.targets.find? (fun x => decide (x.1 = f)) with
    | none =>
      rw [q] at g k
      exact ⟨_, rfl, _, rfl, a, _, dx, _, _, rfl, h1, T.cl_Thing, T.n_Thing_standings, lk_Thing_standings _ _ _, ds, _, rfl, g, false, rfl, k⟩
    | some x =>
      rw [q] at g k
      refine ⟨_, rfl, _, rfl, a, _, dx, _, _, rfl, h1, T.cl_Thing, T.n_Thing_standings, lk_Thing_standings _ _ _, ds, _, rfl, g, true, rfl, _, rfl, a, _, dx, _, _, rfl, h1, T.cl_Thing, T.n_Thing_standings, lk_Thing_standings _ _ _, _, rfl, ds, _, rfl, g, rfl, ?_⟩
      have e2 : decide (V.int (x.2 : Int) = V.int 2) = (x.2 == 2) := by
        by_cases c : x.2 = 2
        · rw [c]
          rfl
        · rw [decide_eq_false (fun q => by injection q with q; omega)]
          exact (beq_eq_false_iff_ne.mpr c).symm
      show Q (V.bl (decide (V.int (x.2 : Int) = V.int 2))) H
      rw [e2]
      exact k

/-! ### the list of things -/
/-- things, each with where it lies -/
abbrev Us := List (Addr × Ut04.Thing)
def ThingsAt (T : Txt K mg) (H : Hp) (l : Addr) (us : Us) : Prop := H l = some (.lst (us.map fun u => V.ref u.1)) ∧ ∀ u ∈ us, ThingAt T H u.1 u.2
theorem ThingsAt.ex {T : Txt K mg} {H H' : Hp} {l : Addr} {us : Us} (e : Same H H') (h : ThingsAt T H l us) : ThingsAt T H' l us := ⟨e _ _ h.1, fun u hu => (h.2 u hu).ex e⟩
theorem ThingsAt.exB {T : Txt K mg} {H H' : Hp} {r l C dx : Addr} {fs : List (Str × V)} {us : Us} (e : ExB r H H') (hr : H r = some (.ins C dx fs)) (hf : fs.lookup ("source_forms" : Str) = none) (h : ThingsAt T H l us) : ThingsAt T H' l us :=
  ⟨e _ _ (ne_of h.1 hr (by intro z; cases z)) h.1, fun u hu => (h.2 u hu).exB e hr hf⟩
/-- what stands at a list's own place: the list of things that are kept -/
def KeptAt (T : Txt K mg) (H : Hp) (a : Addr) (us : Us) : Prop := ∃ (dx l : Addr) (fs : List (Str × V)), H a = some (.ins T.C_TermList dx fs) ∧ fs.lookup ("kept" : Str) = some (.ref l) ∧ ThingsAt T H l us
theorem KeptAt.ex {T : Txt K mg} {H H' : Hp} {l : Addr} {us : Us} (e : Same H H') (h : KeptAt T H l us) : KeptAt T H' l us := by
  obtain ⟨dx, l, fs, h1, h2, h3⟩ := h
  exact ⟨dx, l, fs, e _ _ h1, h2, h3.ex e⟩
def sp_things_meant (T : Txt K mg) : Sp := fun vs H Q _ => ∃ (a b : Addr) (us : Us) (f : List Nat), vs = [.ref a, .ref b] ∧ KeptAt T H a us ∧ us.length ≤ 8 ∧ H b = some (.tup (vI f)) ∧
  ∀ H' l, Same H H' → H l = none → ThingsAt T H' l (us.filter fun u => meant u.2 f) → Q (.ref l) H'
theorem ok_things_meant (T : Txt K mg) : FnOk P w K mg base CX0 2 T.f_things_meant T.fd_things_meant ["terms", "form"] (sp_things_meant T) := by
  have G_Thing_is_meant_by : FnOk P w K mg base CX0 1 _ _ _ _ := ok_Thing_is_meant_by T
  refine T.F_things_meant.ok sc_things_meant (fun vs H Q E h => ?_) (fun cdv A outer s H vs Q E hr h => ?_)
  · obtain ⟨a, b, us, f, rfl, _⟩ := h
    rfl
  · obtain ⟨a, b, us, f, rfl, hk, hlen, hb, k⟩ := h
    refine ⟨_, (pss_one (ps_ret (pe_lc (own := [("thing", 2)]) (g := (gName 2)) (by rfl) sc_things_meant.nd (pi_list (pe_fld (pv 0) rfl)) (blkOk_by (own := [("thing", 2)]) (N := ["terms", "form", "thing"]) (sc := defScope s_things_meant) (by decide +kernel)) (fun _ _ _ _ _ => (pg_name (i := 2) sc_things_meant.nd rfl (Or.inl rfl))) (fun _ _ _ _ _ => (pts_one (pt_val (pe_meth (pv 2) T.cl_Thing T.m_Thing_is_meant_by G_Thing_is_meant_by (hr.mono (by decide)) T.b_Thing_is_meant_by .nil pass0 (pa_cons (pv 1) pa_nil))))) (fun _ _ _ _ _ => (pv 2))))), ?_⟩
    obtain ⟨dx0, l, fs0, hk1, hk2, hl⟩ := hk
    refine ⟨_, rfl, a, _, dx0, _, _, rfl, hk1, T.cl_TermList, T.n_TermList_kept, hk2, l, rfl, ⟨_, SqL.of hl.1⟩, fun D hD => lc_data (K := K) (a := l) us (fun u => V.ref u.1) (fun u => meant u.2 f) (fun u y _ => y = V.ref u.1) hD (by omega) (SqL.of hl.1) (fun _ _ _ _ _ h => h) (fun u hu H' acc e hy N1 N0 h1 h0 => ?_) (fun H2 ys e hy hp => ?_)⟩
    · have th := (hl.2 u hu).ex e
      obtain ⟨_, dx, ls, ds, zs, g1, _⟩ := id th
      refine ⟨rfl, _, rfl, u.1, dx, _, rfl, g1, no_Thing_is_meant_by _ _ _, _, rfl, u.1, b, u.2, f, rfl, th, e _ _ hb, _, rfl, ifb (fun c => ⟨_, rfl, h1 c _ _ (Same.refl _) rfl⟩) (fun c => h0 c _ (Same.refl _))⟩
    · refine k H2 D e hD ⟨?_, fun u hu => (hl.2 u (List.mem_filter.mp hu).1).ex e⟩
      rw [hy, paired_eq (f := fun (u : Addr × Ut04.Thing) => V.ref u.1) hp]
def nums (us : Us) : List V := us.map fun u => V.int (u.2.number : Int)
def sp_numbered (T : Txt K mg) : Sp := fun vs H Q _ => ∃ (a : Addr) (us : Us), vs = [.ref a] ∧ ThingsAt T H a us ∧ us.length ≤ 100 ∧
  ∀ H' l, Same H H' → H l = none → H' l = some (.lst (V.int ((us.length : Nat) : Int) :: nums us)) → Q (.ref l) H'
theorem ok_numbered (T : Txt K mg) : FnOk P w K mg base CX0 1 T.f_numbered T.fd_numbered ["things"] (sp_numbered T) := by
  refine T.F_numbered.ok sc_numbered (fun vs H Q E h => ?_) (fun cdv A outer s H vs Q E hr h => ?_)
  · obtain ⟨a, us, rfl, _⟩ := h
    rfl
  · obtain ⟨a, us, rfl, hl, hlen, k⟩ := h
    refine ⟨_, (pss_one (ps_ret (pe_op op_cat (pe_lst (pa_cons (pe_callB call_len_seq (by rfl) T.z_len PySem.boot_len (pa_cons (pv 0) pa_nil)) pa_nil)) (pe_lc (own := [("thing", 1)]) (g := (gName 1)) (by rfl) sc_numbered.nd (pi_list (pv 0)) (blkOk_by (own := [("thing", 1)]) (N := ["things", "thing"]) (sc := defScope s_numbered) (by decide +kernel)) (fun _ _ _ _ _ => (pg_name (i := 1) sc_numbered.nd rfl (Or.inl rfl))) (fun _ _ _ _ _ => pts_nil) (fun _ _ _ _ _ => (pe_fldK (K := K) rfl (pv 1) rfl)))))), ?_⟩
    refine ⟨_, rfl, a, _, rfl, .inl (SqL.of hl.1), (by show 1 ≤ sizeLine; decide), fun p hp => ?_⟩
    have e0 := Ex.new (o := .lst [V.int (((us.map fun u => V.ref u.1).length : Nat) : Int)]) hp
    have hl0 := hl.ex e0
    refine ⟨_, rfl, a, rfl, ⟨_, SqL.of hl0.1⟩, fun D hD => lc_data (K := K) (a := a) us (fun u => V.ref u.1) (fun _ => true) (fun u y _ => y = V.int (u.2.number : Int)) hD (by omega) (SqL.of hl0.1) (fun _ _ _ _ _ h => h) (fun u hu H' acc e hy N1 N0 h1 h0 => ?_) (fun H2 ys e hy hp2 => ?_)⟩
    · have th := (hl0.2 u hu).ex e
      obtain ⟨_, dx, ls, ds, zs, g1, _⟩ := id th
      exact ⟨rfl, _, rfl, u.1, _, dx, _, _, rfl, g1, T.cl_Thing, T.n_Thing_number, lk_Thing_number _ _ _, h1 rfl _ _ (Same.refl _) rfl⟩
    · rw [filter_true] at hp2
      have ey := paired_eq (f := fun (u : Addr × Ut04.Thing) => V.int (u.2.number : Int)) hp2
      refine ⟨p, D, _, _, rfl, rfl, e _ _ upd_same, hy, ?_, fun q hq => ?_⟩
      · rw [ey]
        simp only [List.length_map, List.length_cons, List.length_nil]
        exact Nat.le_trans (show 0 + 1 + us.length ≤ 101 by omega) (by decide)
      · have e3 := (e0.trans e).trans (Ex.new (o := .lst ([V.int (((us.map fun u => V.ref u.1).length : Nat) : Int)] ++ ys)) hq)
        refine k _ q e3 ((e0.trans e).free hq) ?_
        rw [upd_same, ey, List.length_map]
        rfl
end
end Rn
set_option Elab.async false
set_option maxRecDepth 100000
set_option maxHeartbeats 4000000
set_option linter.unusedVariables false
namespace Rn
open PySem PySem.Spec PyProof.Rows L2
/-! ### keys: each form once, at its first place -/
def keysOf (l : List (List Nat)) : List (List Nat) := l.foldl addF []
theorem addF_len (l : List (List Nat)) (f : List Nat) : (addF l f).length ≤ l.length + 1 := by
  unfold addF
  split
  · omega
  · rw [List.length_append, List.length_singleton]
    exact Nat.le_refl _
theorem fold_len : ∀ (m l : List (List Nat)), (m.foldl addF l).length ≤ l.length + m.length
  | [], l => Nat.le_refl _
  | f :: m, l => by
    rw [List.foldl_cons, List.length_cons]
    have h1 := fold_len m (addF l f)
    have h2 := addF_len l f
    omega
theorem addF_mem {l : List (List Nat)} {f g : List Nat} : g ∈ addF l f ↔ g ∈ l ∨ g = f := by
  unfold addF
  split
  · rename_i h
    have hm := List.contains_iff_mem.mp h
    constructor
    · exact fun q => .inl q
    · rintro (q | q)
      · exact q
      · rw [q]; exact hm
  · rw [List.mem_append, List.mem_singleton]
theorem fold_mem {g : List Nat} : ∀ (m l : List (List Nat)), g ∈ m.foldl addF l ↔ g ∈ l ∨ g ∈ m
  | [], l => by simp
  | f :: m, l => by
    rw [List.foldl_cons, fold_mem m (addF l f), addF_mem, List.mem_cons]
    constructor
    · rintro ((q | q) | q)
      · exact .inl q
      · exact .inr (.inl q)
      · exact .inr (.inr q)
    · rintro (q | q | q)
      · exact .inl (.inl q)
      · exact .inl (.inr q)
      · exact .inr q
theorem keysOf_mem {l : List (List Nat)} {g : List Nat} : g ∈ keysOf l ↔ g ∈ l := by
  unfold keysOf
  rw [fold_mem]
  simp
theorem keysOf_contains (l : List (List Nat)) (g : List Nat) : (keysOf l).contains g = l.contains g := by
  rw [Bool.eq_iff_iff, List.contains_iff_mem, List.contains_iff_mem]
  exact keysOf_mem
theorem dedup_go : ∀ (m l : List (List Nat)), m.foldl addF l = (List.eraseDupsBy.loop (· == ·) m l.reverse)
  | [], l => by
    show l = l.reverse.reverse
    rw [List.reverse_reverse]
  | f :: m, l => by
    rw [List.foldl_cons, dedup_go m (addF l f)]
    unfold addF
    show _ = (match l.reverse.any (fun x => f == x) with
      | true => List.eraseDupsBy.loop (· == ·) m l.reverse
      | false => List.eraseDupsBy.loop (· == ·) m (f :: l.reverse))
    have e : l.reverse.any (fun x => f == x) = l.contains f := by
      rw [List.any_reverse]
      rw [Bool.eq_iff_iff, List.contains_iff_mem, List.any_eq_true]
      constructor
      · rintro ⟨x, hx, q⟩
        rw [beq_iff_eq] at q
        rw [q]
        exact hx
      · exact fun q => ⟨f, q, beq_self_eq_true f⟩
    rw [e]
    cases h : l.contains f with
    | true => rw [if_pos rfl]
    | false => rw [if_neg Bool.false_ne_true, List.reverse_append]; rfl
theorem keysOf_eq (l : List (List Nat)) : keysOf l = l.eraseDups := by
  unfold keysOf
  rw [dedup_go]
  rfl
section
variable {P : Program} {w : World} {K : PySem.W.Frag} {mg : Str → Option Value} {base : Heap}
def srcs (us : Us) : List (List Nat) := us.flatMap fun u => u.2.sources
def tgts (us : Us) : List (List Nat) := us.flatMap fun u => u.2.targets.map (·.1)
theorem ky_len (l : List (List Nat)) : (ky l).length = l.length := List.length_map _
def sp_all_source_forms (T : Txt K mg) : Sp := fun vs H Q _ => ∃ (a : Addr) (us : Us), vs = [.ref a] ∧ KeptAt T H a us ∧ us.length ≤ 8 ∧
  ∀ H' d, Same H H' → H d = none → H' d = some (.dT (ky (keysOf (srcs us)))) → Q (.ref d) H'
theorem ok_all_source_forms (T : Txt K mg) : FnOk P w K mg base CX0 1 T.f_all_source_forms T.fd_all_source_forms ["terms"] (sp_all_source_forms T) := by
  refine T.F_all_source_forms.ok sc_all_source_forms (fun vs H Q E h => ?_) (fun cdv A outer s H vs Q E hr h => ?_)
  · obtain ⟨a, us, rfl, _⟩ := h
    rfl
  · obtain ⟨a, us, rfl, hk, hlen, k⟩ := h
    refine ⟨_, (pss_cons (ps_set (i := 1) sc_all_source_forms.nd rfl (Or.inl rfl) pe_dnewT)
      (pss_cons (ps_for PassesOwn.never rfl (pi_list (pe_fld (pv 0) rfl)) (pg_name (i := 2) sc_all_source_forms.nd rfl (Or.inl rfl))
      (pss_one (ps_for PassesOwn.never rfl (pi_list (pe_fld (pv 2) rfl)) (pg_name (i := 3) sc_all_source_forms.nd rfl (Or.inl rfl))
      (pss_one (ps_dput (hu_of hr) (pv 1) (pv 3) pe_bl rfl)))))
      (pss_one (ps_ret (pv 1))))), ?_⟩
    intro d hd
    have e0 := Ex.new (o := .dT []) hd
    have hk' := hk.ex e0
    obtain ⟨dx0, l, fs0, hk1, hk2, hl⟩ := hk'
    have hd0 : upd H d (.dT []) d = some (.dT []) := upd_same
    refine ⟨_, rfl, a, _, dx0, _, _, rfl, hk1, T.cl_TermList, T.n_TermList_kept, hk2, l, rfl, ⟨_, SqL.of hl.1⟩, for_it (walk_list (K := K) (a := l) (xs := us.map fun u => V.ref u.1))
      (fun i σ H' => ∃ v2 v3 : Option V, σ = [some (.ref a), some (.ref d), v2, v3] ∧ ExB d (upd H d (.dT [])) H' ∧ H' d = some (.dT (ky (keysOf (srcs (us.take i))))) ∧ (keysOf (srcs (us.take i))).length ≤ 3 * i)
      ⟨none, none, rfl, ExB.of (Same.refl _), hd0, Nat.zero_le _⟩ (fun i σ H' _ ⟨_, _, _, e5, _, _⟩ => SqL.of (e5 _ _ (ne_of hl.1 hd0 (by intro z; cases z)) hl.1)) ?_ ?_⟩
    · rintro i x σ H' H2 hi ⟨v2, v3, rfl, e5, d5, n5⟩ ⟨rfl, hx⟩
      obtain ⟨u, hu', rfl⟩ := at_map hx
      have hm := List.mem_of_getElem? hu'
      have hi8 : i < us.length := (List.getElem?_eq_some_iff.mp hu').1
      obtain ⟨ok, dxu, ls, ds, zs, g1, g2, g3, g4⟩ := hl.2 u hm
      have nz : ∀ b o, upd H d (.dT []) b = some o → b ≠ d → H2 b = some o := fun b o hh hb => e5 b o hb hh
      have g1' := nz _ _ g1 (ne_of g1 hd0 (by intro z; cases z))
      have g2' := nz _ _ g2.1 (ne_of g2.1 hd0 (by intro z; cases z))
      refine ⟨_, rfl, u.1, _, dxu, _, _, rfl, g1', T.cl_Thing, T.n_Thing_source_forms, lk_Thing_source_forms _ _ _, ls, rfl, ⟨_, SqL.of g2'⟩, for_it (walk_list (K := K) (a := ls) (xs := zs.map fun z => V.ref z.1))
        (fun j σ H' => ∃ v3 : Option V, σ = [some (.ref a), some (.ref d), some (.ref u.1), v3] ∧ ExB d (upd H d (.dT [])) H' ∧ H' d = some (.dT (ky (((zs.take j).map (·.2)).foldl addF (keysOf (srcs (us.take i))))))) ⟨v3, rfl, e5, d5⟩
        (fun j σ H' _ ⟨_, _, e6, _⟩ => SqL.of (e6 _ _ (ne_of g2.1 hd0 (by intro z; cases z)) g2.1)) ?_ ?_⟩
      · rintro j y σ H3 H4 hj ⟨v3, rfl, e6, d6⟩ ⟨rfl, hy⟩
        obtain ⟨z, hz', rfl⟩ := at_map hy
        have hzm := List.mem_of_getElem? hz'
        have hzt := g2.2 z hzm
        have hzt' := e6 _ _ (ne_of hzt hd0 (by intro z; cases z)) hzt
        refine ⟨_, rfl, _, rfl, d, _, rfl, DPut.t (k := fK z.2) d6 (by rw [fK_kV]; exact hzt') ?_, ?_⟩
        · rw [ky_len]
          have q1 := fold_len ((zs.take j).map (·.2)) (keysOf (srcs (us.take i)))
          have q2 : ((zs.take j).map (·.2)).length ≤ 3 := by
            rw [List.length_map]
            have := List.length_take_le' j zs
            have h7 : zs.length ≤ 3 := by
              have := ok.sn
              rw [← g3, List.length_map] at this
              exact this
            omega
          exact Nat.lt_of_le_of_lt (show _ ≤ 100 by omega) (by decide)
        · refine ⟨_, rfl, e6.trans ExB.upd, ?_⟩
          rw [upd_same, putK_ky, take_more hz', List.map_append, List.foldl_append]
          rfl
      · rintro σ H3 ⟨v3, rfl, e6, d6⟩
        have e7 : ((zs.take (zs.map fun z => V.ref z.1).length).map (·.2)) = u.2.sources := by
          rw [List.length_map, List.take_length, g3]
        rw [e7] at d6
        have e8 : u.2.sources.foldl addF (keysOf (srcs (us.take i))) = keysOf (srcs (us.take (i + 1))) := by
          rw [take_more hu']
          unfold srcs keysOf
          rw [List.flatMap_append, List.foldl_append]
          simp only [List.flatMap_cons, List.flatMap_nil, List.append_nil]
        rw [e8] at d6
        refine ⟨_, _, rfl, e6, d6, ?_⟩
        rw [← e8]
        have q1 := fold_len u.2.sources (keysOf (srcs (us.take i)))
        have q2 := ok.sn
        omega
    · rintro σ H' ⟨v2, v3, rfl, e5, d5, n5⟩
      rw [List.length_map, List.take_length] at d5
      refine ⟨_, rfl, k H' d (fun b o hh => ?_) hd d5⟩
      exact e5 b o (ne_of_none hh hd) (e0 b o hh)
def sp_all_target_forms (T : Txt K mg) : Sp := fun vs H Q _ => ∃ (a : Addr) (us : Us), vs = [.ref a] ∧ KeptAt T H a us ∧ us.length ≤ 8 ∧
  ∀ H' d, Same H H' → H d = none → H' d = some (.dT (ky (keysOf (tgts us)))) → Q (.ref d) H'
theorem ok_all_target_forms (T : Txt K mg) : FnOk P w K mg base CX0 1 T.f_all_target_forms T.fd_all_target_forms ["terms"] (sp_all_target_forms T) := by
  refine T.F_all_target_forms.ok sc_all_target_forms (fun vs H Q E h => ?_) (fun cdv A outer s H vs Q E hr h => ?_)
  · obtain ⟨a, us, rfl, _⟩ := h
    rfl
  · obtain ⟨a, us, rfl, hk, hlen, k⟩ := h
    refine ⟨_, (pss_cons (ps_set (i := 1) sc_all_target_forms.nd rfl (Or.inl rfl) pe_dnewT)
      (pss_cons (ps_for PassesOwn.never rfl (pi_list (pe_fld (pv 0) rfl)) (pg_name (i := 2) sc_all_target_forms.nd rfl (Or.inl rfl))
      (pss_one (ps_lock (ps_for PassesOwn.never rfl (pi_keys (pe_fld (pv 2) rfl)) (pg_name (i := 3) sc_all_target_forms.nd rfl (Or.inl rfl))
      (pss_one (ps_dput (hu_of hr) (pv 1) (pv 3) pe_bl rfl))))))
      (pss_one (ps_ret (pv 1))))), ?_⟩
    intro d hd
    have e0 := Ex.new (o := .dT []) hd
    have hk' := hk.ex e0
    obtain ⟨dx0, l, fs0, hk1, hk2, hl⟩ := hk'
    have hd0 : upd H d (.dT []) d = some (.dT []) := upd_same
    refine ⟨_, rfl, a, _, dx0, _, _, rfl, hk1, T.cl_TermList, T.n_TermList_kept, hk2, l, rfl, ⟨_, SqL.of hl.1⟩, for_it (walk_list (K := K) (a := l) (xs := us.map fun u => V.ref u.1))
      (fun i σ H' => ∃ v2 v3 : Option V, σ = [some (.ref a), some (.ref d), v2, v3] ∧ Same H H' ∧ H' d = some (.dT (ky (keysOf (tgts (us.take i))))) ∧ (keysOf (tgts (us.take i))).length ≤ 4 * i)
      ⟨none, none, rfl, e0, hd0, Nat.zero_le _⟩ (fun i σ H' _ ⟨_, _, _, e5, _, _⟩ => ?_) ?_ ?_⟩
    · obtain ⟨_, l', _, q1, q2, q3⟩ := hk
      have e := e0 _ _ q1
      rw [hk1] at e
      cases e
      rw [hk2] at q2
      cases q2
      exact SqL.of (e5 _ _ q3.1)
    · rintro i x σ H' H2 hi ⟨v2, v3, rfl, e5, d5, n5⟩ ⟨rfl, hx⟩
      obtain ⟨u, hu', rfl⟩ := at_map hx
      have hm := List.mem_of_getElem? hu'
      have hi8 : i < us.length := (List.getElem?_eq_some_iff.mp hu').1
      have hth : ThingAt T H u.1 u.2 := by
        obtain ⟨_, l', _, q1, q2, q3⟩ := hk
        exact q3.2 u hm
      obtain ⟨ok, dxu, ls, ds, zs, g1, g2, g3, g4⟩ := hth
      have g4' := e5 _ _ g4
      have nds : ds ≠ d := ne_of_none g4 hd
      refine ⟨ds, _, g4', trivial, fun od => ?_⟩
      have g1' : upd H2 ds (.frz od (.dT (stK u.2.targets))) u.1 = _ := (upd_ne (ne_of g1 g4 (by intro z; cases z))).trans (e5 _ _ g1)
      refine ⟨_, rfl, u.1, _, dxu, _, _, rfl, g1', T.cl_Thing, T.n_Thing_standings, lk_Thing_standings _ _ _, ds, od, rfl, .inr ⟨_, upd_same, for_it (walk_keysT (d := ds) (o := od) (kvs := stK u.2.targets))
        (fun j σ H' => ∃ v3 : Option V, σ = [some (.ref a), some (.ref d), some (.ref u.1), v3] ∧ ExB d (upd H2 ds (.frz od (.dT (stK u.2.targets)))) H' ∧ H' d = some (.dT (ky (((u.2.targets.take j).map (·.1)).foldl addF (keysOf (tgts (us.take i))))))) ⟨v3, rfl, ExB.of (Same.refl _), (upd_ne (Ne.symm nds)).trans d5⟩
        (fun j σ H' _ ⟨_, _, e6, _⟩ => e6 _ _ nds upd_same) ?_ ?_⟩⟩
      · rintro j y σ H3 H4 hj ⟨v3, rfl, e6, d6⟩ ⟨rfl, kk, vv, q, hkk, rfl, hq⟩
        obtain ⟨z, hz', ez⟩ := at_map hkk
        injection ez with ez1 ez2
        subst ez1
        refine ⟨_, rfl, _, rfl, d, _, rfl, DPut.t (k := fK z.1) d6 hq ?_, ?_⟩
        · rw [ky_len]
          have q1 := fold_len ((u.2.targets.take j).map (·.1)) (keysOf (tgts (us.take i)))
          have q2 : ((u.2.targets.take j).map (·.1)).length ≤ 4 := by
            rw [List.length_map]
            have := List.length_take_le' j u.2.targets
            have := ok.tn
            omega
          exact Nat.lt_of_le_of_lt (show _ ≤ 100 by omega) (by decide)
        · refine ⟨_, rfl, e6.trans ExB.upd, ?_⟩
          rw [upd_same, putK_ky, take_more hz', List.map_append, List.foldl_append]
          rfl
      · rintro σ H3 ⟨v3, rfl, e6, d6⟩
        have e7 : ((u.2.targets.take (stK u.2.targets).length).map (·.1)) = u.2.targets.map (·.1) := by
          unfold stK
          rw [List.length_map, List.take_length]
        rw [e7] at d6
        have e8 : (u.2.targets.map (·.1)).foldl addF (keysOf (tgts (us.take i))) = keysOf (tgts (us.take (i + 1))) := by
          rw [take_more hu']
          unfold tgts keysOf
          rw [List.flatMap_append, List.foldl_append]
          simp only [List.flatMap_cons, List.flatMap_nil, List.append_nil]
        rw [e8] at d6
        refine ⟨e6 _ _ nds upd_same, _, _, rfl, fun b o hh => ?_, (upd_ne (Ne.symm nds)).trans d6, ?_⟩
        · by_cases hb : b = ds
          · subst hb
            rw [upd_same]
            rw [g4] at hh
            exact hh
          · rw [upd_ne hb]
            exact e6 b o (ne_of_none hh hd) ((upd_ne hb).trans (e5 b o hh))
        · rw [← e8]
          have q1 := fold_len (u.2.targets.map (·.1)) (keysOf (tgts (us.take i)))
          have q2 := ok.tn
          rw [List.length_map] at q1
          omega
    · rintro σ H' ⟨v2, v3, rfl, e5, d5, n5⟩
      rw [List.length_map, List.take_length] at d5
      exact ⟨_, rfl, k H' d e5 hd d5⟩
end
end Rn
set_option Elab.async false
set_option maxRecDepth 100000
set_option maxHeartbeats 4000000
set_option linter.unusedVariables false
namespace Rn
open PySem PySem.Spec PyProof.Rows L2
theorem big {n : Nat} (h : n ≤ 1000000) : n ≤ sizeLine := Nat.le_trans h (by decide)
theorem bigl {n : Nat} (h : n ≤ 1000000) : n < sizeLine := Nat.lt_of_le_of_lt h (by decide)
theorem cat_step {H : Hp} {Q : VK} {l b : Addr} {xs ys : List V} (hx : H l = some (.lst xs)) (hy : H b = some (.lst ys)) (hs : xs.length + ys.length ≤ 1000000)
    (k : ∀ p H', Same H H' → H p = none → H' p = some (.lst (xs ++ ys)) → Q (.ref p) H') : rCat (.ref l) (.ref b) H Q :=
  ⟨l, b, xs, ys, rfl, rfl, hx, hy, big hs, fun p hp => k p _ (Ex.new hp) hp upd_same⟩
theorem nwE {H H' : Hp} {p : Addr} {o : HO} (h : upd H p o = H') (hp : H p = none) : Same H H' := h ▸ Ex.new hp
theorem nwP {H H' : Hp} {p : Addr} {o : HO} (h : upd H p o = H') : H' p = some o := h ▸ upd_same
theorem vI_append (a b : List Nat) : vI (a ++ b) = vI a ++ vI b := List.map_append
theorem vI_cons (a : Nat) (b : List Nat) : vI (a :: b) = V.int (a : Int) :: vI b := rfl
section
variable {P : Program} {w : World} {K : PySem.W.Frag} {mg : Str → Option Value} {base : Heap}
def ths (us : Us) : List Ut04.Thing := us.map (·.2)
theorem called_src (us : Us) (f : List Nat) : Ut04.calledSource (ths us) f = (us.filter fun u => meant u.2 f).map fun u => u.2.number := by
  unfold Ut04.calledSource ths
  rw [List.filter_map, List.map_map]
  rfl
theorem called_tgt (us : Us) (f : List Nat) : Ut04.calledTarget (ths us) f = (us.filter fun u => served u.2 f).map fun u => u.2.number := by
  unfold Ut04.calledTarget ths
  rw [List.filter_map, List.map_map]
  rfl
theorem called_forb (us : Us) (f : List Nat) : Ut04.forbidden (ths us) f = (us.filter fun u => forb u.2 f).map fun u => u.2.number := by
  unfold Ut04.forbidden ths
  rw [List.filter_map, List.map_map]
  rfl
theorem nums_eq (us : Us) : nums us = vI (us.map fun u => u.2.number) := by
  unfold nums vI
  rw [List.map_map]
  rfl
theorem srcs_eq (us : Us) : Ut04.allSources (ths us) = srcs us := by
  unfold Ut04.allSources ths srcs
  rw [List.flatMap_map]
theorem tgts_eq (us : Us) : Ut04.allTargets (ths us) = tgts us := by
  unfold Ut04.allTargets ths tgts
  rw [List.flatMap_map]
def chunk (x : List Nat × List Nat) : List Nat := (x.1.length :: x.1) ++ (x.2.length :: x.2)
theorem chunk_len (x : List Nat × List Nat) : (chunk x).length = x.1.length + x.2.length + 2 := by
  unfold chunk
  simp only [List.length_append, List.length_cons]
  omega
def dAns (l : List Ut04.Thing) : List Nat := (Ut04.doubles l).length :: (Ut04.doubles l).flatMap chunk
def dPre (us : Us) (i : Nat) : List (List Nat × List Nat) := (((keysOf (srcs us)).take i).map fun f => (f, Ut04.calledSource (ths us) f)).filter fun x => decide (1 < x.2.length)
theorem dPre_all (us : Us) : dPre us (keysOf (srcs us)).length = Ut04.doubles (ths us) := by
  unfold dPre Ut04.doubles
  rw [List.take_length, keysOf_eq, srcs_eq]
theorem srcs_mem {T : Txt K mg} {H : Hp} {l : Addr} {us : Us} (h : ThingsAt T H l us) {f : List Nat} (hf : f ∈ srcs us) : Ut04.formOk f = true := by
  obtain ⟨u, hu, hf⟩ := List.mem_flatMap.mp hf
  exact (h.2 u hu).ok.sf f hf
theorem tgts_mem {T : Txt K mg} {H : Hp} {l : Addr} {us : Us} (h : ThingsAt T H l us) {f : List Nat} (hf : f ∈ tgts us) : Ut04.formOk f = true := by
  obtain ⟨u, hu, hf⟩ := List.mem_flatMap.mp hf
  obtain ⟨x, hx, rfl⟩ := List.mem_map.mp hf
  exact (h.2 u hu).ok.tf x hx
theorem formOk_len {f : List Nat} (h : Ut04.formOk f = true) : 1 ≤ f.length ∧ f.length ≤ 4 := by
  unfold Ut04.formOk at h
  rw [Bool.and_eq_true, Bool.and_eq_true] at h
  exact ⟨of_decide_eq_true h.1, of_decide_eq_true h.2.1⟩
theorem srcs_few {T : Txt K mg} {H : Hp} {l : Addr} : ∀ {us : Us}, (∀ u ∈ us, ThingAt T H u.1 u.2) → (srcs us).length ≤ 3 * us.length
  | [], _ => Nat.le_refl _
  | u :: us, h => by
    have h1 := srcs_few (l := l) fun x hx => h x (List.mem_cons_of_mem _ hx)
    have h2 := (h u List.mem_cons_self).ok.sn
    show (u.2.sources ++ srcs us).length ≤ _
    rw [List.length_append, List.length_cons]
    omega
/-! ### a form in an answer -/
def sp_spelled (K : PySem.W.Frag) : Sp := fun vs H Q _ => ∃ (q : Addr) (f : List Nat), vs = [.ref q] ∧ H q = some (.tup (vI f)) ∧ f.length ≤ 1000 ∧
  ∀ H' p, Same H H' → H p = none → H' p = some (.lst (vI (f.length :: f))) → Q (.ref p) H'
theorem ok_spelled (T : Txt K mg) : FnOk P w K mg base CX0 1 T.f_spelled T.fd_spelled ["form"] (sp_spelled K) := by
  refine T.F_spelled.ok sc_spelled (fun vs H Q E h => ?_) (fun cdv A outer s H vs Q E hr h => ?_)
  · obtain ⟨q, f, rfl, _⟩ := h
    rfl
  · obtain ⟨q, f, rfl, hq, hlen, k⟩ := h
    refine ⟨_, (pss_one (ps_ret (pe_op op_cat (pe_lst (pa_cons (pe_callB call_len_seq (by rfl) T.z_len PySem.boot_len (pa_cons (pv 0) pa_nil)) pa_nil)) (pe_callTy call_list_of (by rfl) T.z_list PyProof.Rows.boot_list (pa_cons (pv 0) pa_nil))))), ?_⟩
    refine ⟨_, rfl, q, _, rfl, .inr (SqT.of hq), big (by show 1 ≤ 1000000; decide), fun p1 n1 => ?_⟩
    generalize hG1 : upd _ p1 _ = H1
    have e1 := nwE hG1 n1
    have h1 := nwP hG1
    refine ⟨_, rfl, q, _, rfl, .inr (SqT.of (e1 _ _ hq)), fun p2 n2 => ?_⟩
    generalize hG2 : upd _ p2 _ = H2
    have e2 := nwE hG2 n2
    have h2 := nwP hG2
    refine cat_step (e2 _ _ h1) h2 (by simp only [vI_length, List.length_cons, List.length_nil]; omega) fun p3 H3 e3 n3 h3 => ?_
    refine k H3 p3 ((e1.trans e2).trans e3) ((e1.trans e2).free n3) ?_
    rw [h3, vI_length, vI_cons]
    rfl
def sp_tell_doubles (T : Txt K mg) : Sp := fun vs H Q _ => ∃ (a : Addr) (us : Us), vs = [.ref a] ∧ KeptAt T H a us ∧ us.length ≤ 8 ∧
  ∀ H' p, Same H H' → H p = none → H' p = some (.lst (vI (dAns (ths us)))) → Q (.ref p) H'
theorem ok_tell_doubles (T : Txt K mg) : FnOk P w K mg base CX0 3 T.f_tell_doubles T.fd_tell_doubles ["terms"] (sp_tell_doubles T) := by
  have G_all_source_forms : FnOk P w K mg base CX0 1 _ _ _ _ := ok_all_source_forms T
  have G_things_meant : FnOk P w K mg base CX0 2 _ _ _ _ := ok_things_meant T
  have G_numbered : FnOk P w K mg base CX0 1 _ _ _ _ := ok_numbered T
  have G_spelled : FnOk P w K mg base CX0 1 _ _ _ _ := ok_spelled T
  refine T.F_tell_doubles.ok sc_tell_doubles (fun vs H Q E h => ?_) (fun cdv A outer s H vs Q E hr h => ?_)
  · obtain ⟨a, us, rfl, _⟩ := h
    rfl
  · obtain ⟨a, us, rfl, hk, hlen, k⟩ := h
    refine ⟨_, (pss_cons (ps_set (i := 1) sc_tell_doubles.nd rfl (Or.inl rfl) (pe_lst pa_nil))
      (pss_cons (ps_set (i := 2) sc_tell_doubles.nd rfl (Or.inl rfl) pe_int)
      (pss_cons (ps_for PassesOwn.never rfl (pi_keys (pe_frz (pe_call G_all_source_forms (hr.mono (by decide)) rfl T.g_all_source_forms T.F_all_source_forms.kp T.b_all_source_forms .nil pass0 (pa_cons (pv 0) pa_nil)))) (pg_name (i := 3) sc_tell_doubles.nd rfl (Or.inl rfl))
      (pss_cons (ps_set (i := 4) sc_tell_doubles.nd rfl (Or.inl rfl) (pe_call G_things_meant (hr.mono (by decide)) rfl T.g_things_meant T.F_things_meant.kp T.b_things_meant .nil pass0 (pa_cons (pv 0) (pa_cons (pv 3) pa_nil))))
      (pss_one (ps_if (pt_cmpR op_gt (pe_callB call_len_seq (by rfl) T.z_len PySem.boot_len (pa_cons (pv 4) pa_nil)) pe_int (nomark _))
      (pss_cons (ps_set (i := 2) sc_tell_doubles.nd rfl (Or.inl rfl) (pe_op op_add (pv 2) pe_int))
      (pss_one (ps_set (i := 1) sc_tell_doubles.nd rfl (Or.inl rfl) (pe_op op_cat (pe_op op_cat (pv 1) (pe_call G_spelled (hr.mono (by decide)) rfl T.g_spelled T.F_spelled.kp T.b_spelled .nil pass0 (pa_cons (pv 3) pa_nil))) (pe_call G_numbered (hr.mono (by decide)) rfl T.g_numbered T.F_numbered.kp T.b_numbered .nil pass0 (pa_cons (pv 4) pa_nil))))))
      pss_nil))))
      (pss_one (ps_ret (pe_op op_cat (pe_lst (pa_cons (pv 2) pa_nil)) (pv 1))))))), ?_⟩
    refine ⟨big (by show 0 ≤ 1000000; decide), fun p0 n0 => ?_⟩
    generalize hGH0 : upd _ p0 _ = H0
    have e0 := nwE hGH0 n0
    have h0 := nwP hGH0
    refine ⟨_, rfl, a, us, rfl, hk.ex e0, hlen, fun H1 d e1 n1 h1 => ?_⟩
    refine ⟨d, _, rfl, h1, trivial, fun od => ?_⟩
    have e2 : Same H (upd H1 d (.frz od (.dT (ky (keysOf (srcs us)))))) := fun b o hh => by
      rw [upd_ne (ne_of_none (e0 _ _ hh) n1)]
      exact e1 _ _ (e0 _ _ hh)
    have hp0 : upd H1 d (.frz od (.dT (ky (keysOf (srcs us))))) p0 = some (.lst []) := (upd_ne (ne_of_none h0 n1)).trans (e1 _ _ h0)
    generalize hH2 : upd H1 d (.frz od (.dT (ky (keysOf (srcs us))))) = H2 at e2 hp0
    have hd2 : H2 d = some (.frz od (.dT (ky (keysOf (srcs us))))) := by rw [← hH2]; exact upd_same
    have hkeys : (keysOf (srcs us)).length ≤ 24 := by
      obtain ⟨_, l', _, _, _, q3⟩ := id hk
      have := fold_len (srcs us) []
      have := srcs_few (l := l') q3.2
      unfold keysOf
      simp only [List.length_nil] at *
      omega
    refine ⟨d, od, rfl, .inr ⟨_, hd2, for_it (walk_keysT (d := d) (o := od) (kvs := ky (keysOf (srcs us))))
      (fun i σ H' => ∃ (p : Addr) (v3 v4 : Option V), σ = [some (.ref a), some (.ref p), some (.int (((dPre us i).length : Nat) : Int)), v3, v4] ∧ Same H2 H' ∧ H p = none ∧ H' p = some (.lst (vI ((dPre us i).flatMap chunk))) ∧ ((dPre us i).flatMap chunk).length ≤ 100 * i)
      ⟨p0, none, none, rfl, Same.refl _, n0, hp0, Nat.zero_le _⟩ (fun i σ H' _ ⟨_, _, _, _, e5, _⟩ => e5 _ _ hd2) ?_ ?_⟩⟩
    · rintro i x σ H' H3 hi ⟨p, v3, v4, rfl, e5, np, hp, hn⟩ ⟨rfl, kk, vv, q, hkk, rfl, hq⟩
      obtain ⟨f, hf', ef⟩ := at_map hkk
      injection ef with ef1 ef2
      subst ef1
      rw [fK_kV] at hq
      have hi24 : i < (keysOf (srcs us)).length := (List.getElem?_eq_some_iff.mp hf').1
      have hkH := hk.ex (e2.trans e5)
      have hfl : f.length ≤ 4 := by
        obtain ⟨_, l', _, _, _, q3⟩ := id hk
        exact (formOk_len (srcs_mem q3 (keysOf_mem.mp (List.mem_of_getElem? hf')))).2
      refine ⟨_, rfl, _, rfl, a, q, us, f, rfl, hkH, hlen, hq, fun H4 l4 e6 n4 t4 => ?_⟩
      have hcal : Ut04.calledSource (ths us) f = (us.filter fun u => meant u.2 f).map fun u => u.2.number := called_src us f
      have hstep : dPre us (i + 1) = dPre us i ++ (if decide (1 < (us.filter fun u => meant u.2 f).length) = true then [(f, Ut04.calledSource (ths us) f)] else []) := by
        unfold dPre
        rw [take_more hf', List.map_append, List.filter_append]
        congr 1
        rw [List.map_singleton, List.filter_cons, List.filter_nil]
        show (if decide (1 < (Ut04.calledSource (ths us) f).length) = true then _ else _) = _
        rw [show (Ut04.calledSource (ths us) f).length = (us.filter fun u => meant u.2 f).length by rw [hcal, List.length_map]]
      have hfl8 : (us.filter fun u => meant u.2 f).length ≤ 8 := Nat.le_trans (List.length_filter_le _ _) hlen
      refine ⟨_, rfl, l4, _, rfl, .inl (SqL.of t4.1), _, _, rfl, rfl, _, rfl, ifb (fun c => ?_) (fun c => ?_)⟩
      · rw [List.length_map] at c
        have c' : decide (1 < (us.filter fun u => meant u.2 f).length) = true := decide_eq_true (by have := of_decide_eq_true c; omega)
        rw [if_pos c'] at hstep
        refine ⟨_, rfl, _, _, rfl, rfl, ?_⟩
        refine ⟨_, rfl, _, rfl, q, f, rfl, e6 _ _ hq, by omega, fun H5 p1 e7 n5 h5 => ?_⟩
        refine cat_step (e7 _ _ (e6 _ _ hp)) h5 (by simp only [vI_length, List.length_cons]; omega) fun p4 H8 e10 n8 h8 => ?_
        have e11 : Same H4 H8 := e7.trans e10
        refine ⟨_, rfl, l4, _, rfl, t4.ex e11, by omega, fun H9 l9 e12 n9 h9 => ?_⟩
        refine cat_step (e12 _ _ h8) h9 (by simp only [List.length_append, vI_length, List.length_cons, List.length_nil, nums_eq, List.length_map]; omega) fun p5 H10 e13 n10 h10 => ?_
        refine ⟨p5, some (.ref q), some (.ref l4), ?_, ((e5.trans e6).trans e11).trans (e12.trans e13), ?_, ?_, ?_⟩
        · rw [hstep, List.length_append, List.length_singleton]
          rfl
        · exact (((e2.trans e5).trans e6).trans (e11.trans e12)).free n10
        · rw [h10, hstep, List.flatMap_append, List.flatMap_singleton]
          unfold chunk
          simp only [vI_append, vI_cons, hcal, nums_eq, List.length_map, vI_length, List.append_assoc, List.cons_append, List.nil_append]
        · rw [hstep, List.flatMap_append, List.flatMap_singleton, List.length_append, chunk_len]
          show _ + (f.length + (Ut04.calledSource (ths us) f).length + 2) ≤ _
          rw [hcal, List.length_map]
          omega
      · rw [List.length_map] at c
        have c' : decide (1 < (us.filter fun u => meant u.2 f).length) = false := decide_eq_false (by have := of_decide_eq_false c; omega)
        rw [if_neg (by rw [c']; decide), List.append_nil] at hstep
        refine ⟨p, some (.ref q), some (.ref l4), ?_, e5.trans e6, np, ?_, ?_⟩
        · rw [hstep]
          rfl
        · rw [hstep]
          exact e6 _ _ hp
        · rw [hstep]
          omega
    · rintro σ H' ⟨p, v3, v4, rfl, e5, np, hp, hn⟩
      rw [ky_len, dPre_all] at hp hn
      rw [ky_len, dPre_all]
      refine ⟨_, rfl, big (by show 1 ≤ 1000000; decide), fun p1 n5 => ?_⟩
      generalize hGH5 : upd _ p1 _ = H5
      have e7 := nwE hGH5 n5
      have h5 := nwP hGH5
      refine ⟨_, rfl, cat_step h5 (e7 _ _ hp) (by rw [vI_length]; simp only [List.length_cons, List.length_nil]; omega) fun p2 H6 e8 n6 h6 => ?_⟩
      have e9 := ((e2.trans e5).trans e7).trans e8
      exact k H6 p2 e9 (((e2.trans e5).trans e7).free n6) h6
end
end Rn
namespace Rn
open Ut04

/-! ### the longest form -/
/-- the longest of the lengths 1 .. n at which the first words are a form; 0: none -/
def longAt (l : List Sent) (s : Sent) : Nat → Nat
  | 0 => 0
  | n + 1 => if l.contains (s.take (n + 1)) = true then n + 1 else longAt l s n

theorem longAt_le (l : List Sent) (s : Sent) : ∀ n, longAt l s n ≤ n
  | 0 => Nat.le_refl _
  | n + 1 => by
    unfold longAt
    split
    · exact Nat.le_refl _
    · exact Nat.le_succ_of_le (longAt_le l s n)
theorem longAt_in (l : List Sent) (s : Sent) : ∀ n, longAt l s n = 0 ∨ s.take (longAt l s n) ∈ l
  | 0 => .inl rfl
  | n + 1 => by
    unfold longAt
    split
    · rename_i h
      exact .inr (List.contains_iff_mem.mp h)
    · exact longAt_in l s n
theorem longAt_max (l : List Sent) (s : Sent) : ∀ n k, k ≤ n → s.take k ∈ l → k ≤ longAt l s n
  | 0, k, hk, _ => by omega
  | n + 1, k, hk, hm => by
    unfold longAt
    split
    · exact hk
    · rename_i h
      have : k ≠ n + 1 := fun e => h (List.contains_iff_mem.mpr (e ▸ hm))
      exact longAt_max l s n k (by omega) hm

theorem begins_iff {f s : Sent} : begins f s = true ↔ s.take f.length = f := by
  unfold begins
  exact beq_iff_eq
theorem begins_len {f s : Sent} (h : begins f s = true) : f.length ≤ s.length := by
  have e := congrArg List.length (begins_iff.mp h)
  rw [List.length_take] at e
  omega

theorem longest_go (s : Sent) : ∀ (l : List Sent) (n : Nat),
    n ≤ l.foldl (fun n f => if begins f s = true then max n f.length else n) n ∧
    (l.foldl (fun n f => if begins f s = true then max n f.length else n) n = n ∨ ∃ f ∈ l, begins f s = true ∧ f.length = l.foldl (fun n f => if begins f s = true then max n f.length else n) n) ∧
    ∀ f ∈ l, begins f s = true → f.length ≤ l.foldl (fun n f => if begins f s = true then max n f.length else n) n
  | [], n => ⟨Nat.le_refl _, .inl rfl, fun f h => nomatch h⟩
  | g :: l, n => by
    obtain ⟨h1, h2, h3⟩ := longest_go s l (if begins g s = true then max n g.length else n)
    rw [List.foldl_cons]
    by_cases c : begins g s = true
    · rw [if_pos c] at h1 h2 h3 ⊢
      refine ⟨by omega, ?_, fun f hf hb => ?_⟩
      · rcases h2 with h2 | ⟨f, hf, hb, e⟩
        · by_cases d : n < g.length
          · exact .inr ⟨g, List.mem_cons_self, c, by rw [h2]; omega⟩
          · exact .inl (by rw [h2]; omega)
        · exact .inr ⟨f, List.mem_cons_of_mem _ hf, hb, e⟩
      · rcases List.mem_cons.mp hf with rfl | hf
        · omega
        · exact h3 f hf hb
    · rw [if_neg c] at h1 h2 h3 ⊢
      refine ⟨h1, ?_, fun f hf hb => ?_⟩
      · rcases h2 with h2 | ⟨f, hf, hb, e⟩
        · exact .inl h2
        · exact .inr ⟨f, List.mem_cons_of_mem _ hf, hb, e⟩
      · rcases List.mem_cons.mp hf with rfl | hf
        · exact absurd hb c
        · exact h3 f hf hb

theorem longest_eq {l : List Sent} {s : Sent} (hl : ∀ f ∈ l, 1 ≤ f.length ∧ f.length ≤ 4) : longest l s = longAt l s (min 4 s.length) := by
  obtain ⟨_, h2, h3⟩ := longest_go s l 0
  have e : longest l s = l.foldl (fun n f => if begins f s = true then max n f.length else n) 0 := rfl
  rw [← e] at h2 h3
  have a1 : longest l s ≤ longAt l s (min 4 s.length) := by
    rcases h2 with h2 | ⟨f, hf, hb, e2⟩
    · omega
    · have hm : s.take f.length ∈ l := by rw [begins_iff.mp hb]; exact hf
      have := longAt_max l s (min 4 s.length) f.length (by have := hl f hf; have := begins_len hb; omega) hm
      omega
  have a2 : longAt l s (min 4 s.length) ≤ longest l s := by
    rcases longAt_in l s (min 4 s.length) with h | h
    · omega
    · have hle := longAt_le l s (min 4 s.length)
      have hlen : (s.take (longAt l s (min 4 s.length))).length = longAt l s (min 4 s.length) := by rw [List.length_take]; omega
      have := h3 _ h (begins_iff.mpr (by rw [hlen]))
      omega
  omega
theorem longest_le (l : List Sent) (s : Sent) : longest l s ≤ s.length := by
  obtain ⟨_, h2, _⟩ := longest_go s l 0
  have e : longest l s = l.foldl (fun n f => if begins f s = true then max n f.length else n) 0 := rfl
  rw [← e] at h2
  rcases h2 with h2 | ⟨f, _, hb, e2⟩
  · omega
  · have := begins_len hb
    omega

/-! ### the marks -/
theorem marks_turn0 {l : List Sent} {s : Sent} {f p : Nat} (hp : p < s.length) (h0 : longest l (s.drop p) = 0) : marksFrom l (f + 1) p (s.drop p) = marksFrom l f (p + 1) (s.drop (p + 1)) := by
  have e : s.drop p = s[p] :: s.drop (p + 1) := List.drop_eq_getElem_cons hp
  rw [e] at h0
  rw [e]
  show (if longest l (s[p] :: s.drop (p + 1)) = 0 then marksFrom l f (p + 1) (s.drop (p + 1)) else _) = _
  rw [if_pos h0]
theorem marks_turn1 {l : List Sent} {s : Sent} {f p n : Nat} (hp : p < s.length) (hn : longest l (s.drop p) = n) (h0 : n ≠ 0) : marksFrom l (f + 1) p (s.drop p) = (p, p + n) :: marksFrom l f (p + n) (s.drop (p + n)) := by
  have e : s.drop p = s[p] :: s.drop (p + 1) := List.drop_eq_getElem_cons hp
  have e2 : s.drop (p + n) = (s.drop p).drop n := by rw [List.drop_drop]
  rw [e2]
  rw [e] at hn ⊢
  show (if longest l (s[p] :: s.drop (p + 1)) = 0 then _ else (p, p + longest l (s[p] :: s.drop (p + 1))) :: marksFrom l f (p + longest l (s[p] :: s.drop (p + 1))) ((s[p] :: s.drop (p + 1)).drop (longest l (s[p] :: s.drop (p + 1))))) = _
  rw [hn, if_neg h0]
theorem marks_end {l : List Sent} {s : Sent} {f p : Nat} (hp : s.length ≤ p) : marksFrom l f p (s.drop p) = [] := by
  rw [List.drop_eq_nil_of_le hp]
  cases f <;> rfl
theorem slice_eq (s : Sent) (p n : Nat) : slice s (p, p + n) = (s.drop p).take n := by
  show (s.take (p + n)).drop p = (s.drop p).take n
  rw [List.drop_take]
  congr 1
  omega

/-! ### the pairing -/
/-- of one source mark: the target marks that go with it -/
def partners (t : List Mark) (x : Mark) : List Nat := (t.zipIdx.filter fun y => meets x.2.2 y.1.2.2).map (·.2)
def mostM : List (List Nat) → Nat → Nat
  | [], _ => 0
  | ps :: r, k => ps.foldl (fun n j => if k.testBit j = true then n else max n (1 + mostM r (k ||| 2 ^ j))) (mostM r k)
def pairsM : List (List Nat) → Nat → List Nat
  | [], _ => []
  | ps :: r, k => match ps.find? fun j => !k.testBit j && (1 + mostM r (k ||| 2 ^ j) == mostM (ps :: r) k) with
    | some j => (j + 1) :: pairsM r (k ||| 2 ^ j)
    | none => 0 :: pairsM r k

/-- 0: none; else one more than its place -/
def opt0 : Option Nat → Nat
  | none => 0
  | some j => j + 1
def Bits (used : List Nat) (k : Nat) : Prop := ∀ j, used.contains j = k.testBit j
theorem Bits.zero : Bits [] 0 := fun j => by simp
theorem Bits.more {used : List Nat} {k : Nat} (h : Bits used k) (i : Nat) : Bits (i :: used) (k ||| 2 ^ i) := fun j => by
  rw [Nat.testBit_or, ← h j, Nat.testBit_two_pow, List.contains_cons]
  by_cases e : j = i
  · subst e; simp
  · have e' : ¬ i = j := fun q => e q.symm
    simp [e, e']

theorem foldl_part {α : Type} {A : α → Prop} [DecidablePred A] {f : α → Nat} {B : Nat → Prop} [DecidablePred B] {g : Nat → Nat → Nat} : ∀ (L : List α) (n : Nat),
    L.foldl (fun n y => if A y ∧ B (f y) then g n (f y) else n) n = ((L.filter fun y => decide (A y)).map f).foldl (fun n j => if B j then g n j else n) n
  | [], _ => rfl
  | y :: L, n => by
    rw [List.foldl_cons, List.filter_cons]
    by_cases c : A y
    · rw [if_pos (decide_eq_true c), List.map_cons, List.foldl_cons]
      by_cases d : B (f y)
      · rw [if_pos ⟨c, d⟩, if_pos d]
        exact foldl_part L _
      · rw [if_neg (fun q => d q.2), if_neg d]
        exact foldl_part L _
    · rw [if_neg (show ¬ (A y ∧ B (f y)) from fun q => c q.1), if_neg (show ¬ decide (A y) = true from fun q => c (of_decide_eq_true q))]
      exact foldl_part L _
theorem foldl_congr {α β : Type} {f g : β → α → β} (h : ∀ b a, f b a = g b a) (L : List α) (b : β) : L.foldl f b = L.foldl g b := by
  have e : f = g := funext fun b => funext fun a => h b a
  rw [e]

theorem most_eq (t : List Mark) : ∀ (l : List Mark) (used : List Nat) (k : Nat), Bits used k → most t l used = mostM (l.map (partners t)) k
  | [], _, _, _ => rfl
  | x :: l, used, k, h => by
    show t.zipIdx.foldl (fun n y => if meets x.2.2 y.1.2.2 = true ∧ used.contains y.2 = false then max n (most t l (y.2 :: used) + 1) else n) (most t l used) = _
    rw [most_eq t l used k h]
    have e := foldl_part (A := fun (y : Mark × Nat) => meets x.2.2 y.1.2.2 = true) (f := fun y => y.2) (B := fun j => used.contains j = false) (g := fun n j => max n (most t l (j :: used) + 1)) t.zipIdx (mostM (l.map (partners t)) k)
    rw [e]
    have e2 : (t.zipIdx.filter fun y => decide (meets x.2.2 y.1.2.2 = true)) = t.zipIdx.filter fun y => meets x.2.2 y.1.2.2 := by
      congr 1
      funext y
      cases meets x.2.2 y.1.2.2 <;> rfl
    rw [e2]
    show _ = (partners t x).foldl _ _
    refine foldl_congr (fun n j => ?_) _ _
    rw [h j, most_eq t l (j :: used) (k ||| 2 ^ j) (h.more j)]
    cases k.testBit j
    · rw [if_pos rfl, if_neg Bool.false_ne_true, Nat.add_comm 1]
    · rw [if_neg (by decide), if_pos rfl]

theorem find_part {α : Type} {A : α → Bool} {f : α → Nat} {B : Nat → Bool} : ∀ (L : List α), (L.find? fun y => A y && B (f y)).map f = ((L.filter A).map f).find? B
  | [] => rfl
  | y :: L => by
    rw [List.find?_cons, List.filter_cons]
    cases a : A y with
    | false =>
      simp only [Bool.false_and, Bool.false_eq_true, if_false]
      exact find_part L
    | true =>
      simp only [Bool.true_and, if_true, List.map_cons, List.find?_cons]
      cases b : B (f y) with
      | true => rfl
      | false => exact find_part L

theorem pairs_eq (t : List Mark) : ∀ (l : List Mark) (used : List Nat) (k : Nat), Bits used k →
    (pairs t l used).map opt0 = pairsM (l.map (partners t)) k
  | [], _, _, _ => rfl
  | x :: l, used, k, h => by
    have e0 : (fun (y : Mark × Nat) => meets x.2.2 y.1.2.2 && (!used.contains y.2 && most t (x :: l) used == most t l (y.2 :: used) + 1)) =
        fun y => meets x.2.2 y.1.2.2 && (fun j => !k.testBit j && (1 + mostM (l.map (partners t)) (k ||| 2 ^ j) == mostM ((x :: l).map (partners t)) k)) y.2 := by
      funext y
      show (meets x.2.2 y.1.2.2 && (!used.contains y.2 && most t (x :: l) used == most t l (y.2 :: used) + 1)) = (meets x.2.2 y.1.2.2 && (!k.testBit y.2 && (1 + mostM (l.map (partners t)) (k ||| 2 ^ y.2) == mostM ((x :: l).map (partners t)) k)))
      rw [h y.2, most_eq t (x :: l) used k h, most_eq t l (y.2 :: used) (k ||| 2 ^ y.2) (h.more y.2), Nat.add_comm 1]
      congr 2
      exact Bool.eq_iff_iff.mpr (by simp only [beq_iff_eq]; exact eq_comm)
    have e1 := find_part (A := fun (y : Mark × Nat) => meets x.2.2 y.1.2.2) (f := fun y => y.2) (B := fun j => !k.testBit j && (1 + mostM (l.map (partners t)) (k ||| 2 ^ j) == mostM ((x :: l).map (partners t)) k)) t.zipIdx
    rw [← e0] at e1
    unfold pairs
    show _ = (match (partners t x).find? fun j => !k.testBit j && (1 + mostM (l.map (partners t)) (k ||| 2 ^ j) == mostM (partners t x :: l.map (partners t)) k) with
    | some j => (j + 1) :: pairsM (l.map (partners t)) (k ||| 2 ^ j)
    | none => 0 :: pairsM (l.map (partners t)) k)
    have e2 : (partners t x).find? (fun j => !k.testBit j && (1 + mostM (l.map (partners t)) (k ||| 2 ^ j) == mostM (partners t x :: l.map (partners t)) k)) = _ := e1.symm
    rw [e2]
    cases t.zipIdx.find? (fun (y : Mark × Nat) => meets x.2.2 y.1.2.2 && (!used.contains y.2 && most t (x :: l) used == most t l (y.2 :: used) + 1)) with
    | none =>
      show 0 :: _ = 0 :: _
      rw [pairs_eq t l used k h]
    | some y =>
      show (y.2 + 1) :: _ = (y.2 + 1) :: _
      rw [pairs_eq t l (y.2 :: used) (k ||| 2 ^ y.2) (h.more y.2)]
theorem pairs_count : ∀ (p : List (Option Nat)), (p.filter fun x => x.isSome).length = ((p.map opt0).filter fun c => decide (0 < c)).length
  | [] => rfl
  | none :: p => by
    rw [List.map_cons, List.filter_cons, List.filter_cons]
    exact pairs_count p
  | some j :: p => by
    rw [List.map_cons, List.filter_cons, List.filter_cons]
    show (_ :: _).length = (if decide (0 < j + 1) = true then _ else _ : List Nat).length
    rw [if_pos (by simp), List.length_cons, List.length_cons, pairs_count p]
end Rn
namespace Rn
open Ut04
/-! ### numbers that are none twice -/
theorem nd_num {ts : List Thing} (nd : (ts.map (·.number)).Nodup) {t u : Thing} (ht : t ∈ ts) (hu : u ∈ ts) (h : t.number = u.number) : t = u := by
  induction ts with
  | nil => cases ht
  | cons x ts ih =>
    rw [List.map_cons, List.nodup_cons] at nd
    rcases List.mem_cons.mp ht with e1 | ht'
    · rcases List.mem_cons.mp hu with e2 | hu'
      · rw [e1, e2]
      · exact absurd (List.mem_map.mpr ⟨u, hu', by rw [← h, e1]⟩) nd.1
    · rcases List.mem_cons.mp hu with e2 | hu'
      · exact absurd (List.mem_map.mpr ⟨t, ht', by rw [h, e2]⟩) nd.1
      · exact ih nd.2 ht' hu'
theorem meets_iff {ts : List Thing} (nd : (ts.map (·.number)).Nodup) (p q : Thing → Bool) : meets ((ts.filter p).map (·.number)) ((ts.filter q).map (·.number)) = (ts.filter p).any q := by
  rw [Bool.eq_iff_iff]
  unfold meets
  rw [List.any_eq_true, List.any_eq_true]
  constructor
  · rintro ⟨n, hn, hc⟩
    obtain ⟨t, ht, rfl⟩ := List.mem_map.mp hn
    obtain ⟨u, hu, e⟩ := List.mem_map.mp (List.contains_iff_mem.mp hc)
    have := nd_num nd (List.mem_filter.mp ht).1 (List.mem_filter.mp hu).1 e.symm
    subst this
    exact ⟨t, ht, (List.mem_filter.mp hu).2⟩
  · rintro ⟨t, ht, hq⟩
    exact ⟨t.number, List.mem_map.mpr ⟨t, ht, rfl⟩, List.contains_iff_mem.mpr (List.mem_map.mpr ⟨t, List.mem_filter.mpr ⟨(List.mem_filter.mp ht).1, hq⟩, rfl⟩)⟩
/-- the same against the numbers of several selections -/
theorem meets_all {ts : List Thing} (nd : (ts.map (·.number)).Nodup) (q : Thing → Bool) (ps : List (Thing → Bool)) : meets ((ts.filter q).map (·.number)) (ps.flatMap fun p => (ts.filter p).map (·.number)) = (ps.flatMap fun p => ts.filter p).any q := by
  rw [Bool.eq_iff_iff]
  unfold meets
  rw [List.any_eq_true, List.any_eq_true]
  constructor
  · rintro ⟨n, hn, hc⟩
    obtain ⟨t, ht, rfl⟩ := List.mem_map.mp hn
    obtain ⟨p, hp, hm⟩ := List.mem_flatMap.mp (List.contains_iff_mem.mp hc)
    obtain ⟨u, hu, e⟩ := List.mem_map.mp hm
    have := nd_num nd (List.mem_filter.mp ht).1 (List.mem_filter.mp hu).1 e.symm
    subst this
    exact ⟨t, List.mem_flatMap.mpr ⟨p, hp, hu⟩, (List.mem_filter.mp ht).2⟩
  · rintro ⟨t, ht, hq⟩
    obtain ⟨p, hp, hm⟩ := List.mem_flatMap.mp ht
    exact ⟨t.number, List.mem_map.mpr ⟨t, List.mem_filter.mpr ⟨(List.mem_filter.mp hm).1, hq⟩, rfl⟩, List.contains_iff_mem.mpr (List.mem_flatMap.mpr ⟨p, hp, List.mem_map.mpr ⟨t, hm, rfl⟩⟩)⟩
end Rn
namespace Rn
def tI (f : List Nat) : List Int := f.map fun (n : Nat) => (n : Int)
theorem tI_len (f : List Nat) : (tI f).length = f.length := List.length_map _
theorem tI_drop (f : List Nat) (n : Nat) : (tI f).drop n = tI (f.drop n) := by
  unfold tI
  rw [List.map_drop]
theorem tI_take (f : List Nat) (n : Nat) : (tI f).take n = tI (f.take n) := by
  unfold tI
  rw [List.map_take]
theorem tI_toNat (f : List Nat) : (tI f).map Int.toNat = f := by
  unfold tI
  rw [List.map_map]
  have i : (Int.toNat ∘ fun (n : Nat) => (n : Int)) = id := funext fun n => Int.toNat_natCast n
  rw [i, List.map_id]
theorem tI_of {l : List Int} (h : ∀ x ∈ l, 0 ≤ x) : tI (l.map Int.toNat) = l := by
  unfold tI
  rw [List.map_map]
  conv => rhs; rw [← List.map_id l]
  refine List.map_congr_left fun x hx => ?_
  show ((x.toNat : Nat) : Int) = id x
  have := h x hx
  show _ = x
  omega
theorem drop_cons {α : Type} {l : List α} {q : Nat} {x : α} {r : List α} (h : l.drop q = x :: r) : l[q]? = some x ∧ r = l.drop (q + 1) ∧ q + 1 ≤ l.length := by
  by_cases hq : q < l.length
  · rw [List.drop_eq_getElem_cons hq] at h
    obtain ⟨h1, h2⟩ := List.cons.inj h
    exact ⟨by rw [List.getElem?_eq_getElem hq, h1], h2.symm, hq⟩
  · rw [List.drop_eq_nil_of_le (by omega)] at h
    cases h
theorem tI_cons {f : List Nat} {x : Int} {r : List Int} (h : tI f = x :: r) : ∃ n g, f = n :: g ∧ x = (n : Int) ∧ r = tI g := by
  cases f with
  | nil => cases h
  | cons n g =>
    obtain ⟨h1, h2⟩ := List.cons.inj h
    exact ⟨n, g, rfl, h1.symm, h2.symm⟩
theorem row_at {ms : List Nat} {q : Nat} {x s : List Int} (h : PyFlat.row (tI (ms.drop q)) = some (x, s)) : ∃ n, ms[q]? = some n ∧ q + 1 + n ≤ ms.length ∧ x = tI ((ms.drop (q + 1)).take n) ∧ s = tI (ms.drop (q + 1 + n)) := by
  cases e : ms.drop q with
  | nil =>
    rw [e] at h
    cases h
  | cons n g =>
    obtain ⟨h1, h2, h3⟩ := drop_cons e
    rw [e] at h
    replace h : (if (0 : Int) ≤ (n : Int) ∧ (n : Int).toNat ≤ (tI g).length then some ((tI g).take (n : Int).toNat, (tI g).drop (n : Int).toNat) else none) = some (x, s) := h
    split at h
    · rename_i hc
      rw [Int.toNat_natCast] at hc h
      cases h
      have hl := hc.2
      rw [tI_len, h2, List.length_drop] at hl
      exact ⟨n, h1, by omega, by rw [tI_take, h2], by rw [tI_drop, h2, List.drop_drop]⟩
    · cases h
/-- a call that stands at the place q of the numbers, and where the next one begins -/
inductive Cl (ms : List Nat) (q : Nat) : List (List Int) → Nat → Prop
  | thing (n : Nat) (h0 : ms[q]? = some 0) (h1 : ms[q + 1]? = some n) (h2 : q + 2 + n ≤ ms.length) : Cl ms q [[0], tI ((ms.drop (q + 2)).take n)] (q + 2 + n)
  | gone (x : Nat) (h0 : ms[q]? = some 1) (h1 : ms[q + 1]? = some x) : Cl ms q [[1, (x : Int)]] (q + 2)
  | marks (n : Nat) (h0 : ms[q]? = some 2) (h1 : ms[q + 1]? = some n) (h2 : q + 2 + n ≤ ms.length) : Cl ms q [[2], tI ((ms.drop (q + 2)).take n)] (q + 2 + n)
  | check (n m : Nat) (h0 : ms[q]? = some 3) (h1 : ms[q + 1]? = some n) (h2 : q + 2 + n ≤ ms.length) (h3 : ms[q + 2 + n]? = some m) (h4 : q + 2 + n + 1 + m ≤ ms.length) : Cl ms q [[3], tI ((ms.drop (q + 2)).take n), tI ((ms.drop (q + 2 + n + 1)).take m)] (q + 2 + n + 1 + m)
  | doubles (h0 : ms[q]? = some 4) : Cl ms q [[4]] (q + 1)
  | best (x : Nat) (h0 : ms[q]? = some 5) (h1 : ms[q + 1]? = some x) : Cl ms q [[5, (x : Int)]] (q + 2)
  | things (h0 : ms[q]? = some 6) : Cl ms q [[6]] (q + 1)
  | undo (h0 : ms[q]? = some 7) : Cl ms q [[7]] (q + 1)
  | named (n : Nat) (h0 : ms[q]? = some 8) (h1 : ms[q + 1]? = some n) (h2 : q + 2 + n ≤ ms.length) : Cl ms q [[8], tI ((ms.drop (q + 2)).take n)] (q + 2 + n)
theorem rows0 {r : List Int} {xs : List (List Int)} {t : List Int} (h : PyFlat.rows 0 r = some (xs, t)) : xs = [] ∧ t = r := by
  cases h
  exact ⟨rfl, rfl⟩
theorem rows1 {k : Nat} {r : List Int} {xs : List (List Int)} {t : List Int} (h : PyFlat.rows (k + 1) r = some (xs, t)) : ∃ x s ys, PyFlat.row r = some (x, s) ∧ PyFlat.rows k s = some (ys, t) ∧ xs = x :: ys := by
  unfold PyFlat.rows at h
  cases hr : PyFlat.row r with
  | none =>
    rw [hr] at h
    cases h
  | some y =>
    rw [hr] at h
    obtain ⟨x, s⟩ := y
    dsimp only at h
    cases hs : PyFlat.rows k s with
    | none =>
      rw [hs] at h
      cases h
    | some z =>
      rw [hs] at h
      cases h
      exact ⟨x, s, z.1, rfl, hs, rfl⟩
theorem call_of {p : Int} {r : List Int} {n k : Nat} {c : List (List Int)} {t : List Int} (hs : PyUt04.shape p = some (n, k)) (h : PyFlat.call PyUt04.shape (p :: r) = some (c, t)) : ∃ xs, n ≤ r.length ∧ PyFlat.rows k (r.drop n) = some (xs, t) ∧ c = (p :: r.take n) :: xs := by
  unfold PyFlat.call at h
  dsimp only at h
  rw [hs] at h
  replace h : (if r.length < n then none else match PyFlat.rows k (r.drop n) with
      | none => none
      | some (xs, t) => some ((p :: r.take n) :: xs, t)) = some (c, t) := h
  split at h
  · cases h
  · rename_i hl
    cases hr : PyFlat.rows k (r.drop n) with
    | none =>
      rw [hr] at h
      cases h
    | some y =>
      rw [hr] at h
      cases h
      exact ⟨y.1, by omega, rfl, rfl⟩
theorem call_at {ms : List Nat} {q : Nat} {c : List (List Int)} {t : List Int} (h : PyFlat.call PyUt04.shape (tI (ms.drop q)) = some (c, t)) : ∃ q', Cl ms q c q' ∧ t = tI (ms.drop q') ∧ q < q' ∧ q' ≤ ms.length := by
  cases e : ms.drop q with
  | nil =>
    rw [e] at h
    cases h
  | cons p g =>
    obtain ⟨h1, h2, h3⟩ := drop_cons e
    rw [e] at h
    replace h : PyFlat.call PyUt04.shape ((p : Int) :: tI g) = some (c, t) := h
    have one : ∀ (k : Nat), PyUt04.shape (k : Int) = some (0, 1) → p = k → ∃ n, ms[q + 1]? = some n ∧ q + 2 + n ≤ ms.length ∧ c = [[(k : Int)], tI ((ms.drop (q + 2)).take n)] ∧ t = tI (ms.drop (q + 2 + n)) := by
      intro k hk hp
      subst hp
      obtain ⟨xs, _, hr, rfl⟩ := call_of hk h
      obtain ⟨x, s, ys, hr1, hr2, rfl⟩ := rows1 hr
      obtain ⟨rfl, rfl⟩ := rows0 hr2
      rw [List.drop_zero, h2] at hr1
      obtain ⟨n, a1, a2, a3, a4⟩ := row_at hr1
      exact ⟨n, a1, by omega, by rw [a3]; rfl, a4⟩
    have num : ∀ (k : Nat), PyUt04.shape (k : Int) = some (1, 0) → p = k → ∃ x, ms[q + 1]? = some x ∧ c = [[(k : Int), (x : Int)]] ∧ t = tI (ms.drop (q + 2)) ∧ q + 2 ≤ ms.length := by
      intro k hk hp
      subst hp
      obtain ⟨xs, hl, hr, rfl⟩ := call_of hk h
      obtain ⟨rfl, rfl⟩ := rows0 hr
      cases g with
      | nil => rw [tI_len] at hl; simp at hl
      | cons x g' =>
        obtain ⟨b1, b2, b3⟩ := drop_cons h2.symm
        refine ⟨x, b1, rfl, ?_, by omega⟩
        show tI g' = _
        rw [b2]
    have none : ∀ (k : Nat), PyUt04.shape (k : Int) = some (0, 0) → p = k → c = [[(k : Int)]] ∧ t = tI (ms.drop (q + 1)) := by
      intro k hk hp
      subst hp
      obtain ⟨xs, hl, hr, rfl⟩ := call_of hk h
      obtain ⟨rfl, rfl⟩ := rows0 hr
      exact ⟨rfl, by rw [List.drop_zero, h2]⟩
    by_cases c0 : p = 0
    · obtain ⟨n, a1, a2, rfl, rfl⟩ := one 0 rfl c0
      exact ⟨_, .thing n (c0 ▸ h1) a1 a2, rfl, by omega, a2⟩
    by_cases c1 : p = 1
    · obtain ⟨x, a1, rfl, rfl, a2⟩ := num 1 rfl c1
      exact ⟨_, .gone x (c1 ▸ h1) a1, rfl, by omega, a2⟩
    by_cases c2 : p = 2
    · obtain ⟨n, a1, a2, rfl, rfl⟩ := one 2 rfl c2
      exact ⟨_, .marks n (c2 ▸ h1) a1 a2, rfl, by omega, a2⟩
    by_cases c3 : p = 3
    · subst c3
      obtain ⟨xs, _, hr, rfl⟩ := call_of (n := 0) (k := 2) rfl h
      obtain ⟨x, s, ys, hr1, hr2, rfl⟩ := rows1 hr
      obtain ⟨x2, s2, ys2, hr3, hr4, rfl⟩ := rows1 hr2
      obtain ⟨rfl, rfl⟩ := rows0 hr4
      rw [List.drop_zero, h2] at hr1
      obtain ⟨n, a1, a2, rfl, rfl⟩ := row_at hr1
      obtain ⟨m, b1, b2, rfl, rfl⟩ := row_at hr3
      have e1 : q + 1 + 1 + n = q + 2 + n := by omega
      rw [e1] at b1 b2 ⊢
      exact ⟨_, .check n m h1 a1 (by omega) b1 b2, rfl, by omega, b2⟩
    by_cases c4 : p = 4
    · obtain ⟨rfl, rfl⟩ := none 4 rfl c4
      exact ⟨_, .doubles (c4 ▸ h1), rfl, by omega, h3⟩
    by_cases c5 : p = 5
    · obtain ⟨x, a1, rfl, rfl, a2⟩ := num 5 rfl c5
      exact ⟨_, .best x (c5 ▸ h1) a1, rfl, by omega, a2⟩
    by_cases c6 : p = 6
    · obtain ⟨rfl, rfl⟩ := none 6 rfl c6
      exact ⟨_, .things (c6 ▸ h1), rfl, by omega, h3⟩
    by_cases c7 : p = 7
    · obtain ⟨rfl, rfl⟩ := none 7 rfl c7
      exact ⟨_, .undo (c7 ▸ h1), rfl, by omega, h3⟩
    by_cases c8 : p = 8
    · obtain ⟨n, a1, a2, rfl, rfl⟩ := one 8 rfl c8
      exact ⟨_, .named n (c8 ▸ h1) a1 a2, rfl, by omega, a2⟩
    · exfalso
      have hsh : PyUt04.shape (p : Int) = Option.none := by
        unfold PyUt04.shape
        rw [if_neg (by omega), if_neg (by omega), if_neg (by omega), if_neg (by omega), if_neg (by omega), if_neg (by omega), if_neg (by omega), if_neg (by omega), if_neg (by omega)]
      unfold PyFlat.call at h
      dsimp only at h
      rw [hsh] at h
      cases h
theorem calls_step {f : Nat} {p : Int} {r : List Int} {cs : List (List (List Int))} (h : PyFlat.calls PyUt04.shape f (p :: r) = some cs) : ∃ f' c t cs', f = f' + 1 ∧ PyFlat.call PyUt04.shape (p :: r) = some (c, t) ∧ PyFlat.calls PyUt04.shape f' t = some cs' ∧ cs = c :: cs' := by
  cases f with
  | zero => cases h
  | succ f' =>
    unfold PyFlat.calls at h
    cases hc : PyFlat.call PyUt04.shape (p :: r) with
    | none =>
      rw [hc] at h
      cases h
    | some y =>
      rw [hc] at h
      obtain ⟨c, t⟩ := y
      dsimp only at h
      cases hs : PyFlat.calls PyUt04.shape f' t with
      | none =>
        rw [hs] at h
        cases h
      | some z =>
        rw [hs] at h
        cases h
        exact ⟨f', c, t, z, rfl, rfl, hs, rfl⟩
/-! ### what a call is -/
theorem nat_all {l : List Nat} (h : ∀ n ∈ l, n < 4294967296) : (tI l).all Ut04Neutral.nat = true := by
  rw [List.all_eq_true]
  intro x hx
  obtain ⟨n, hn, rfl⟩ := List.mem_map.mp hx
  have := h n hn
  unfold Ut04Neutral.nat
  rw [Bool.and_eq_true]
  exact ⟨decide_eq_true (Int.natCast_nonneg n), decide_eq_true (by show (n : Int) < 4294967296; omega)⟩
theorem callOf_tI {l : List Nat} (h : ∀ n ∈ l, n < 4294967296) : Ut04Neutral.callOf (tI l) = Ut04Neutral.callIn l := by
  unfold Ut04Neutral.callOf
  rw [nat_all h, if_neg (by decide), tI_toNat]
theorem sentIn_whole (l : List Nat) : Ut04Neutral.sentIn (l.length :: l) = some (l, []) := by
  show (if l.length < l.length then none else some (l.take l.length, l.drop l.length)) = _
  rw [if_neg (by omega), List.take_length, List.drop_length]
theorem sentIn_app (l m : List Nat) : Ut04Neutral.sentIn (l.length :: (l ++ m)) = some (l, m) := by
  show (if (l ++ m).length < l.length then none else some ((l ++ m).take l.length, (l ++ m).drop l.length)) = _
  rw [if_neg (by rw [List.length_append]; omega), List.take_left, List.drop_left]
theorem in_marks (l : List Nat) : Ut04Neutral.callIn (2 :: l.length :: l) = some (.marks l) := by
  show (Ut04Neutral.sentIn (l.length :: l)).bind _ = _
  rw [sentIn_whole]
  rfl
theorem in_named (l : List Nat) : Ut04Neutral.callIn (8 :: l.length :: l) = some (.named l) := by
  show (Ut04Neutral.sentIn (l.length :: l)).bind _ = _
  rw [sentIn_whole]
  rfl
theorem in_check (l m : List Nat) : Ut04Neutral.callIn (3 :: l.length :: (l ++ m.length :: m)) = some (.check l m) := by
  show (Ut04Neutral.sentIn (l.length :: (l ++ m.length :: m))).bind _ = _
  rw [sentIn_app]
  show (Ut04Neutral.sentIn (m.length :: m)).bind _ = _
  rw [sentIn_whole]
  rfl
/-- a thing's numbers, read as the program reads them -/
theorem in_thing {l : List Nat} {c : Ut04.Call} (h : Ut04Neutral.callIn (0 :: l) = some c) : ∃ n l' fs m r ts, l = n :: l' ∧ n ≤ l'.length ∧ Ut04Neutral.formsIn n l' = some (fs, m :: r) ∧ m ≤ r.length ∧ Ut04Neutral.targetsIn m r = some (ts, []) ∧ c = .thing fs ts := by
  cases l with
  | nil => cases h
  | cons n l' =>
    replace h : (if l'.length < n then none else (Ut04Neutral.formsIn n l').bind fun x => match x.2 with
      | m :: r => if r.length < m then none else (Ut04Neutral.targetsIn m r).bind fun y => if y.2 = [] then some (Ut04.Call.thing x.1 y.1) else none
      | [] => none) = some c := h
    split at h
    · cases h
    · rename_i hl
      cases hf : Ut04Neutral.formsIn n l' with
      | none =>
        rw [hf] at h
        cases h
      | some x =>
        obtain ⟨fs, r0⟩ := x
        rw [hf] at h
        cases r0 with
        | nil => cases h
        | cons m r =>
          replace h : (if r.length < m then none else (Ut04Neutral.targetsIn m r).bind fun y => if y.2 = [] then some (Ut04.Call.thing fs y.1) else none) = some c := h
          split at h
          · cases h
          · rename_i hm
            cases ht : Ut04Neutral.targetsIn m r with
            | none =>
              rw [ht] at h
              cases h
            | some y =>
              obtain ⟨ts, r2⟩ := y
              rw [ht] at h
              replace h : (if r2 = [] then some (Ut04.Call.thing fs ts) else none) = some c := h
              split at h
              · rename_i hr2
                cases h
                rw [hr2] at ht
                exact ⟨n, l', fs, m, r, ts, rfl, by omega, hf, by omega, ht, rfl⟩
              · cases h
theorem formsIn_len : ∀ {k : Nat} {l : List Nat} {fs : List (List Nat)} {rest : List Nat}, Ut04Neutral.formsIn k l = some (fs, rest) → fs.length = k ∧ fs.length + rest.length ≤ l.length ∧ ∀ f ∈ fs, f.length ≤ l.length
  | 0, l, fs, rest, h => by
    cases h
    exact ⟨rfl, by simp, fun f hf => nomatch hf⟩
  | k + 1, l, fs, rest, h => by
    unfold Ut04Neutral.formsIn at h
    cases hs : Ut04Neutral.sentIn l with
    | none =>
      rw [hs] at h
      cases h
    | some x =>
      rw [hs] at h
      replace h : (Ut04Neutral.formsIn k x.2).map (fun y => (x.1 :: y.1, y.2)) = some (fs, rest) := h
      cases hf : Ut04Neutral.formsIn k x.2 with
      | none =>
        rw [hf] at h
        cases h
      | some y =>
        obtain ⟨fr, r⟩ := y
        rw [hf] at h
        cases h
        obtain ⟨a1, a2, a3⟩ := formsIn_len hf
        cases l with
        | nil => cases hs
        | cons n l' =>
          replace hs : (if l'.length < n then none else some (l'.take n, l'.drop n)) = some x := hs
          split at hs
          · cases hs
          · cases hs
            have b1 : (l'.drop n).length ≤ l'.length := by rw [List.length_drop]; omega
            have b2 : (l'.take n).length ≤ l'.length := by rw [List.length_take]; omega
            refine ⟨by rw [List.length_cons, a1], ?_, fun f hf => ?_⟩
            · rw [List.length_cons, List.length_cons]
              dsimp only at a2 ⊢
              omega
            · rw [List.length_cons]
              rcases List.mem_cons.mp hf with rfl | hf
              · dsimp only
                omega
              · have := a3 f hf
                dsimp only at this
                omega
theorem targetsIn_len : ∀ {k : Nat} {l : List Nat} {ts : List (List Nat × Nat)} {rest : List Nat}, Ut04Neutral.targetsIn k l = some (ts, rest) → ts.length = k ∧ ts.length + rest.length ≤ l.length ∧ ∀ t ∈ ts, t.1.length ≤ l.length
  | 0, l, ts, rest, h => by
    cases h
    exact ⟨rfl, by simp, fun f hf => nomatch hf⟩
  | k + 1, l, ts, rest, h => by
    unfold Ut04Neutral.targetsIn at h
    cases hs : Ut04Neutral.sentIn l with
    | none =>
      rw [hs] at h
      cases h
    | some x =>
      rw [hs] at h
      obtain ⟨f, r⟩ := x
      cases r with
      | nil => cases h
      | cons c m =>
        replace h : (Ut04Neutral.targetsIn k m).map (fun y => ((f, c) :: y.1, y.2)) = some (ts, rest) := h
        cases hf : Ut04Neutral.targetsIn k m with
        | none =>
          rw [hf] at h
          cases h
        | some y =>
          obtain ⟨tr, r⟩ := y
          rw [hf] at h
          cases h
          obtain ⟨a1, a2, a3⟩ := targetsIn_len hf
          cases l with
          | nil => cases hs
          | cons n l' =>
            replace hs : (if l'.length < n then none else some (l'.take n, l'.drop n)) = some (f, c :: m) := hs
            split at hs
            · cases hs
            · injection hs with hs
              injection hs with e1 e2
              have b1 : (l'.drop n).length ≤ l'.length := by rw [List.length_drop]; omega
              have b2 : (l'.take n).length ≤ l'.length := by rw [List.length_take]; omega
              rw [e2, List.length_cons] at b1
              rw [e1] at b2
              refine ⟨by rw [List.length_cons, a1], ?_, fun t ht => ?_⟩
              · rw [List.length_cons, List.length_cons]
                dsimp only at a2 ⊢
                omega
              · rw [List.length_cons]
                rcases List.mem_cons.mp ht with rfl | ht
                · dsimp only
                  omega
                · have := a3 t ht
                  omega
end Rn
namespace Rn
open Ut04
/-! ### what stays true of the list -/
def NumOk (given : Nat) (ts : List Thing) : Prop := ts.length ≤ 8 ∧ (ts.map (·.number)).Nodup ∧ ∀ t ∈ ts, t.number < given
structure Good (g : House) (n : Nat) : Prop where
  th : NumOk g.given g.things
  old : ∀ l ∈ g.old, NumOk g.given l
  len : g.old.length ≤ n
theorem NumOk.up {n : Nat} {ts : List Thing} (h : NumOk n ts) : NumOk (n + 1) ts := ⟨h.1, h.2.1, fun t ht => Nat.lt_succ_of_lt (h.2.2 t ht)⟩
theorem NumOk.snoc {n : Nat} {ts : List Thing} {s : List Sent} {t : List (Sent × Nat)} (h : NumOk n ts) (h8 : ts.length < 8) : NumOk (n + 1) (ts ++ [⟨n, s, t⟩]) := by
  refine ⟨by rw [List.length_append, List.length_singleton]; omega, ?_, fun u hu => ?_⟩
  · rw [List.map_append, List.nodup_append]
    refine ⟨h.2.1, by simp, fun x hx y hy e => ?_⟩
    obtain ⟨u, hu, rfl⟩ := List.mem_map.mp hx
    have := h.2.2 u hu
    rw [List.map_singleton, List.mem_singleton] at hy
    rw [hy] at e
    exact absurd e (Nat.ne_of_lt this)
  · rcases List.mem_append.mp hu with hu | hu
    · exact Nat.lt_succ_of_lt (h.2.2 u hu)
    · rw [List.mem_singleton.mp hu]
      exact Nat.lt_succ_self _
theorem NumOk.filter {n : Nat} {ts : List Thing} (p : Thing → Bool) (h : NumOk n ts) : NumOk n (ts.filter p) :=
  ⟨Nat.le_trans (List.length_filter_le _ _) h.1, List.Nodup.sublist (List.Sublist.map _ List.filter_sublist) h.2.1, fun t ht => h.2.2 t (List.mem_filter.mp ht).1⟩
theorem Good.init : Good Ut04.init 0 := ⟨⟨by decide, List.nodup_nil, fun t ht => nomatch ht⟩, (fun l hl => nomatch hl), Nat.le_refl _⟩
theorem Good.mono {g : House} {n m : Nat} (h : Good g n) (le : n ≤ m) : Good g m := ⟨h.th, h.old, Nat.le_trans h.len le⟩
theorem Good.step {g : House} {n : Nat} (h : Good g n) (c : Call) : Good (Ut04.step g c).1 (n + 1) := by
  have up : Good g (n + 1) := h.mono (Nat.le_succ n)
  cases c with
  | thing s t =>
    unfold Ut04.step
    dsimp only
    split
    · exact up
    · split
      · exact up
      · rename_i h8
        refine ⟨h.th.snoc (by omega), fun l hl => ?_, ?_⟩
        · rcases List.mem_cons.mp hl with e | hl
          · exact e ▸ h.th.up
          · exact (h.old l hl).up
        · show (g.things :: g.old).length ≤ n + 1
          rw [List.length_cons]
          have := h.len
          omega
  | gone m =>
    unfold Ut04.step
    dsimp only
    split
    · exact up
    · refine ⟨h.th.filter _, fun l hl => ?_, ?_⟩
      · rcases List.mem_cons.mp hl with e | hl
        · exact e ▸ h.th
        · exact h.old l hl
      · show (g.things :: g.old).length ≤ n + 1
        rw [List.length_cons]
        have := h.len
        omega
  | undo =>
    obtain ⟨ts, gv, old⟩ := g
    cases old with
    | nil => exact up
    | cons l r =>
      refine ⟨h.old l List.mem_cons_self, fun x hx => h.old x (List.mem_cons_of_mem _ hx), ?_⟩
      have := h.len
      rw [List.length_cons] at this
      show r.length ≤ n + 1
      omega
  | marks s => exact up
  | check s t => exact up
  | doubles => exact up
  | best n => exact up
  | things => exact up
  | named f => exact up
/-! ### a call's numbers, as the specification reads them -/
def flat (c : List (List Int)) : List Int := (PyUt04.whole c).headD []
def stp (g : House) (c : List (List Int)) : House × List Int := Ut04Neutral.step g (flat c)
theorem stp_of {g : House} {c : List (List Int)} {x : Call} (h : Ut04Neutral.callOf (flat c) = some x) : stp g c = Ut04.step g x := by
  unfold stp Ut04Neutral.step
  rw [h]
/-- what is told from a state on -/
def toldFrom (g : House) (cs : List (List (List Int))) : List Int := PyFlat.told (PyFlat.played stp g cs)
theorem played_map : ∀ (cs : List (List (List Int))) (g : House), PyFlat.played (fun s c => Ut04Neutral.step s (c.headD [])) g (cs.map PyUt04.whole) = PyFlat.played stp g cs
  | [], _ => rfl
  | c :: cs, g => by
    show _ :: PyFlat.played _ _ (cs.map PyUt04.whole) = _ :: PyFlat.played stp _ cs
    rw [played_map cs]
    rfl
theorem toldFrom_cons (g : House) (c : List (List Int)) (cs : List (List (List Int))) : toldFrom g (c :: cs) = ((stp g c).2.length : Int) :: (stp g c).2 ++ toldFrom (stp g c).1 cs := by
  unfold toldFrom
  show PyFlat.told ((stp g c).2 :: PyFlat.played stp (stp g c).1 cs) = _
  unfold PyFlat.told
  rw [List.flatMap_cons]
theorem many_len : ∀ (cs : List (List (List Int))) (g : House), (toldFrom g cs).length = cs.length + Ut04Neutral.many g (cs.map flat)
  | [], _ => rfl
  | c :: cs, g => by
    rw [toldFrom_cons, List.length_append, List.length_cons, many_len cs, List.length_cons]
    show _ = _ + ((Ut04Neutral.step g (flat c)).2.length + Ut04Neutral.many (Ut04Neutral.step g (flat c)).1 (cs.map flat))
    show (Ut04Neutral.step g (flat c)).2.length + 1 + (cs.length + Ut04Neutral.many (Ut04Neutral.step g (flat c)).1 (cs.map flat)) = _
    omega
theorem answers_raw {l : List Int} {raw : List (List (List Int))} (h : PyFlat.calls PyUt04.shape l.length l = some raw) : PyUt04.answers l = toldFrom Ut04.init raw := by
  unfold PyUt04.answers PyUt04.calls
  rw [h]
  show PyFlat.told (PyFlat.played _ _ (raw.map PyUt04.whole)) = _
  rw [played_map]
  rfl
/-- what is asked of a list of calls -/
theorem asked_raw {l : List Int} (h : PyUt04.answers_asked l = true) : ∃ raw, PyFlat.calls PyUt04.shape l.length l = some raw ∧ raw.length ≤ 40 ∧ (∀ c ∈ raw, PyInside.call PyUt04.bound c = true) ∧ (∀ c ∈ raw, (Ut04Neutral.callOf (flat c)).isSome = true) ∧ (toldFrom Ut04.init raw).length ≤ 1000040 := by
  unfold PyUt04.answers_asked at h
  cases hr : PyFlat.calls PyUt04.shape l.length l with
  | none =>
    rw [hr] at h
    cases h
  | some raw =>
    rw [hr] at h
    simp only [Bool.and_eq_true] at h
    obtain ⟨⟨⟨⟨_, h1⟩, h2⟩, h3⟩, _⟩ := h
    unfold Ut04Neutral.asked at h3
    simp only [Bool.and_eq_true, decide_eq_true_eq] at h3
    obtain ⟨a1, _, _, a2, _⟩ := h3
    have e : (raw.map PyUt04.whole).map (fun c => c.headD []) = raw.map flat := by
      rw [List.map_map]
      rfl
    rw [e] at a1 a2
    have h40 : raw.length ≤ 40 := of_decide_eq_true h1
    refine ⟨raw, rfl, h40, fun c hc => List.all_eq_true.mp h2 c hc, fun c hc => List.all_eq_true.mp a1 _ (List.mem_map.mpr ⟨c, hc, rfl⟩), ?_⟩
    rw [many_len]
    have a3 : Ut04Neutral.many Ut04.init (raw.map flat) ≤ 1000000 := a2
    omega
/-! ### each kind of call -/
theorem lists1 {lo hi : Int} {a b : Nat} {r : List Int} {p : Int} (hb : PyUt04.bound p = ([], [(lo, hi, a, b)])) (h : PyInside.call PyUt04.bound [[p], r] = true) : r.length ≤ b := by
  unfold PyInside.call at h
  dsimp only at h
  rw [hb] at h
  simp only [PyInside.each, PyInside.lists, Bool.and_eq_true, decide_eq_true_eq] at h
  exact h.2.1.1.2
theorem lists2 {lo hi lo' hi' : Int} {a b a' b' : Nat} {r r' : List Int} {p : Int} (hb : PyUt04.bound p = ([], [(lo, hi, a, b), (lo', hi', a', b')])) (h : PyInside.call PyUt04.bound [[p], r, r'] = true) : r.length ≤ b ∧ r'.length ≤ b' := by
  unfold PyInside.call at h
  dsimp only at h
  rw [hb] at h
  simp only [PyInside.each, PyInside.lists, Bool.and_eq_true, decide_eq_true_eq] at h
  exact ⟨h.2.1.1.2, h.2.2.1.1.2⟩
theorem flat_thing (r : List Nat) : flat [[0], tI r] = tI (0 :: r) := rfl
theorem flat_gone (x : Nat) : flat [[1, (x : Int)]] = tI [1, x] := rfl
theorem flat_marks (r : List Nat) : flat [[2], tI r] = tI (2 :: r.length :: r) := by
  show (2 : Int) :: ((tI r).length : Int) :: tI r = _
  rw [tI_len]
  rfl
theorem flat_check (r s : List Nat) : flat [[3], tI r, tI s] = tI (3 :: r.length :: (r ++ s.length :: s)) := by
  show [(3 : Int)] ++ [((tI r).length : Int)] ++ tI r ++ [((tI s).length : Int)] ++ tI s = _
  rw [tI_len, tI_len]
  unfold tI
  simp
theorem flat_named (r : List Nat) : flat [[8], tI r] = tI (8 :: r.length :: r) := by
  show (8 : Int) :: ((tI r).length : Int) :: tI r = _
  rw [tI_len]
  rfl
end Rn
set_option Elab.async false
set_option maxRecDepth 100000
set_option maxHeartbeats 4000000
set_option linter.unusedVariables false
namespace Rn
open PySem PySem.Spec PyProof.Rows L2
theorem longAt_congr {k l : List (List Nat)} (h : ∀ f, k.contains f = l.contains f) (s : List Nat) : ∀ n, longAt k s n = longAt l s n
  | 0 => rfl
  | n + 1 => by
    unfold longAt
    rw [h, longAt_congr h s n]
theorem longAt_yes {k : List (List Nat)} {s : List Nat} {n : Nat} (hn : 1 ≤ n) (h : k.contains (s.take n) = true) : longAt k s n = n := by
  obtain ⟨m, rfl⟩ : ∃ m, n = m + 1 := ⟨n - 1, by omega⟩
  unfold longAt
  rw [if_pos h]
theorem longAt_no {k : List (List Nat)} {s : List Nat} {n : Nat} (hn : 1 ≤ n) (h : k.contains (s.take n) = false) : longAt k s n = longAt k s (n - 1) := by
  obtain ⟨m, rfl⟩ : ∃ m, n = m + 1 := ⟨n - 1, by omega⟩
  conv => lhs; unfold longAt
  rw [if_neg (by rw [h]; decide)]
  rfl
section
variable {P : Program} {w : World} {K : PySem.W.Frag} {mg : Str → Option Value} {base : Heap}
def sp_longest_form_at (K : PySem.W.Frag) : Sp := fun vs H Q _ => ∃ (s d : Addr) (p : Nat) (ws : List Nat) (ks : List (List Nat)), vs = [.ref s, .int (p : Int), .ref d] ∧ SqL K H s (vI ws) ∧ H d = some (.dT (ky ks)) ∧ p ≤ ws.length ∧ ws.length ≤ 1000 ∧
  ∀ H' q, Same H H' → H' q = some (.tup (vI ((ws.drop p).take (longAt ks (ws.drop p) (min 4 (ws.length - p)))))) → Q (.ref q) H'
theorem ok_longest_form_at (T : Txt K mg) : FnOk P w K mg base CX0 1 T.f_longest_form_at T.fd_longest_form_at ["sentence", "place", "forms"] (sp_longest_form_at K) := by
  refine T.F_longest_form_at.ok sc_longest_form_at (fun vs H Q E h => ?_) (fun cdv A outer s H vs Q E hr h => ?_)
  · obtain ⟨s, d, p, ws, ks, rfl, _⟩ := h
    rfl
  · obtain ⟨sa, d, p, ws, ks, rfl, hS, hd, hp, hlen, k⟩ := h
    refine ⟨_, (pss_cons (ps_set (i := 3) sc_longest_form_at.nd rfl (Or.inl rfl) (pe_callB (call_min2 rfl) (by rfl) T.z_min PyProof.Rows.boot_min (pa_cons (pe_glob (v := .int 4) rfl T.g_MOST_FORM_WORDS ⟨_, rfl⟩) (pa_cons (pe_op op_sub (pe_callB call_len_seq (by rfl) T.z_len PySem.boot_len (pa_cons (pv 0) pa_nil)) (pv 1)) pa_nil))))
      (pss_cons (ps_for PassesOwn.never rfl (pi_range3 (by rfl) T.z_range (pa_cons (pv 3) (pa_cons pe_int (pa_cons (pe_un un_neg pe_int) pa_nil)))) (pg_name (i := 4) sc_longest_form_at.nd rfl (Or.inl rfl))
      (pss_cons (ps_set (i := 5) sc_longest_form_at.nd rfl (Or.inl rfl) (pe_callTy call_tuple_of (by rfl) T.z_tuple PyProof.Rows.boot_tuple (pa_cons (pe_slice sl_list (pv 0) (po_some (pv 1)) (po_some (pe_op op_add (pv 1) (pv 4)))) pa_nil)))
      (pss_one (ps_if (pt_cmp (pc_din (hu_of hr) (pv 5) (pv 2)))
      (pss_one (ps_ret (pv 5)))
      pss_nil))))
      (pss_one (ps_ret (pe_tup pa_nil))))), ?_⟩
    refine ⟨_, rfl, sa, _, rfl, .inl hS, _, rfl, _, _, rfl, rfl, _, _, rfl, ?_⟩
    have em : (if ((vI ws).length : Int) - (p : Int) < 4 then ((vI ws).length : Int) - (p : Int) else 4) = ((min 4 (ws.length - p) : Nat) : Int) := by
      rw [vI_length]
      split <;> omega
    show tSeq _ _ _ (List.set _ 3 (some (V.int (if ((vI ws).length : Int) - (p : Int) < 4 then ((vI ws).length : Int) - (p : Int) else 4)))) H
    rw [em]
    generalize hm : min 4 (ws.length - p) = m at k
    have hm4 : m ≤ 4 := by omega
    refine ⟨_, rfl, _, rfl, (m : Int), 0, -1, m, rfl, ?_, for_it (walk_rangeC (lo := (m : Int)) (c := -1) (n := m)) (fun i σ H' => ∃ v4 v5 : Option V, σ = [some (.ref sa), some (.int (p : Int)), some (.ref d), some (.int (m : Int)), v4, v5] ∧ Same H H' ∧ longAt ks (ws.drop p) m = longAt ks (ws.drop p) (m - i))
      ⟨none, none, rfl, Same.refl _, rfl⟩ (fun _ _ _ _ _ => trivial) ?_ ?_⟩
    · have e : ((m : Int) - 0).toNat = m := by omega
      have q := RgC.neg (i := (m : Int)) (j := 0) (by omega) (by omega) (by decide) (by decide)
      rw [e] at q
      exact q
    · rintro i x σ H' H2 hi ⟨v4, v5, rfl, e5, hl⟩ ⟨rfl, rfl⟩
      have hS2 := e5.seq hS
      refine ⟨_, rfl, _, rfl, _, rfl, _, rfl, _, rfl, _, _, rfl, rfl, _, rfl, sa, _, rfl, hS2, fun l nl => ?_⟩
      generalize hG1 : upd _ l _ = H3
      have e6 := nwE hG1 nl
      have hl3 := nwP hG1
      have ec : cutV (vI ws) (some (p : Int)) (some ((p : Int) + ((m : Int) + ((i : Nat) : Int) * -1))) = vI ((ws.drop p).take (m - i)) := by
        rw [show (p : Int) + ((m : Int) + ((i : Nat) : Int) * -1) = ((p + (m - i) : Nat) : Int) by omega, cut_nat (by omega) (by rw [vI_length]; omega), vI_cut, show p + (m - i) - p = m - i by omega]
      have hl3' : H3 l = some (.lst (vI ((ws.drop p).take (m - i)))) := by
        rw [← ec]
        exact hl3
      refine ⟨l, _, rfl, .inl ⟨SqL.of hl3', fun t nt => ?_⟩⟩
      generalize hG2 : upd _ t _ = H4
      have e7 := nwE hG2 nt
      have ht := nwP hG2
      have hd4 := e7 _ _ (e6 _ _ (e5 _ _ hd))
      refine ⟨_, rfl, _, rfl, d, _, rfl, DGet.t (k := fK ((ws.drop p).take (m - i))) hd4 (by rw [fK_kV]; exact ht), _, rfl, ?_⟩
      rw [valV_ky]
      refine ifb (fun c => ⟨_, rfl, k H4 t ((e5.trans e6).trans e7) ?_⟩) (fun c => ⟨_, _, rfl, (e5.trans e6).trans e7, ?_⟩)
      · rw [hl, longAt_yes (by omega) c]
        exact ht
      · rw [hl, longAt_no (by omega) c, Nat.sub_sub]
    · rintro σ H' ⟨v4, v5, rfl, e5, hl⟩
      rw [Nat.sub_self] at hl
      refine ⟨big (by show 0 ≤ 1000000; decide), fun t nt => ?_⟩
      refine k _ t (e5.trans (Ex.new nt)) ?_
      rw [hl]
      exact upd_same
/-! ### marks -/
def MarkAt (T : Txt K mg) (H : Hp) (a : Addr) (ws : List Nat) (x : Nat × Nat) : Prop := ∃ dx f, H a = some (.ins T.C_Mark dx (fs_Mark (.int (x.1 : Int)) (.int (x.2 : Int)) (.ref f))) ∧ H f = some (.tup (vI (Ut04.slice ws x)))
theorem MarkAt.ex {T : Txt K mg} {H H' : Hp} {a : Addr} {ws : List Nat} {x : Nat × Nat} (e : Same H H') (h : MarkAt T H a ws x) : MarkAt T H' a ws x := by
  obtain ⟨dx, f, h1, h2⟩ := h
  exact ⟨dx, f, e _ _ h1, e _ _ h2⟩
abbrev Ms := List (Addr × (Nat × Nat))
def MarksAt (T : Txt K mg) (H : Hp) (l : Addr) (ws : List Nat) (ms : Ms) : Prop := H l = some (.lst (ms.map fun m => V.ref m.1)) ∧ ∀ m ∈ ms, MarkAt T H m.1 ws m.2
theorem MarksAt.ex {T : Txt K mg} {H H' : Hp} {l : Addr} {ws : List Nat} {ms : Ms} (e : Same H H') (h : MarksAt T H l ws ms) : MarksAt T H' l ws ms := ⟨e _ _ h.1, fun u hu => (h.2 u hu).ex e⟩
def sp_Mark_init (T : Txt K mg) : Sp := fun vs H Q _ => ∃ (p dx f : Addr) (b : Nat) (g : List Nat), vs = [.ref p, .int (b : Int), .ref f] ∧ H p = some (.ins T.C_Mark dx []) ∧ H f = some (.tup (vI g)) ∧
  ∀ H' : Hp, (∃ dx, H' p = some (.ins T.C_Mark dx (fs_Mark (.int (b : Int)) (.int ((b + g.length : Nat) : Int)) (.ref f)))) → ExB p H H' → Q .non H'
theorem ok_Mark_init (T : Txt K mg) : FnOk P w K mg base CX0 1 T.f_Mark_init T.fd_Mark_init ["self", "begin", "form"] (sp_Mark_init T) := by
  refine T.F_Mark_init.ok sc_Mark_init (fun vs H Q E h => ?_) (fun cdv A outer s H vs Q E hr h => ?_)
  · obtain ⟨p, dx, f, b, g, rfl, _⟩ := h
    rfl
  · obtain ⟨p, dx, f, b, g, rfl, hp, hf, k⟩ := h
    refine ⟨_, (pss_cons (ps_fld (pv 0) (pv 1) rfl)
      (pss_cons (ps_fld (pv 0) (pe_op op_add (pv 1) (pe_callB call_len_seq (by rfl) T.z_len PySem.boot_len (pa_cons (pv 2) pa_nil))) rfl)
      (pss_one (ps_fld (pv 0) (pv 2) rfl)))), ?_⟩
    have npf : f ≠ p := ne_of hf hp (by intro z; cases z)
    refine ⟨_, rfl, _, rfl, p, T.C_Mark, dx, _, rfl, hp, T.cl_Mark, T.n_Mark_begin, (by show 0 < 1000; decide), ?_⟩
    refine ⟨_, rfl, _, rfl, f, _, rfl, .inr (SqT.of ((upd_ne npf).trans hf)), _, _, rfl, rfl, _, rfl, p, T.C_Mark, dx, _, rfl, upd_same, T.cl_Mark, T.n_Mark_end, (by rw [in_Mark_begin]; show 1 < 1000; decide), ?_⟩
    refine ⟨_, rfl, _, rfl, p, T.C_Mark, dx, _, rfl, upd_same, T.cl_Mark, T.n_Mark_form, (by rw [in_Mark_begin, in_Mark_end]; show 2 < 1000; decide), ?_⟩
    refine k _ ⟨dx, ?_⟩ (((ExB.upd).trans ExB.upd).trans ExB.upd)
    rw [upd_same, in_Mark_begin, in_Mark_end, in_Mark_form, vI_length]
    rfl
def sp_find_marks (T : Txt K mg) : Sp := fun vs H Q _ => ∃ (s d : Addr) (ws : List Nat) (l : List (List Nat)), vs = [.ref s, .ref d] ∧ SqL K H s (vI ws) ∧ H d = some (.dT (ky (keysOf l))) ∧ (∀ f ∈ l, 1 ≤ f.length ∧ f.length ≤ 4) ∧ ws.length ≤ 1000 ∧
  ∀ H' a (ms : Ms), Same H H' → H a = none → MarksAt T H' a ws ms → ms.map (·.2) = Ut04.marks l ws → Q (.ref a) H'
theorem marks_len {l : List (List Nat)} : ∀ (f p : Nat) (s : List Nat), (Ut04.marksFrom l f p s).length ≤ s.length
  | 0, _, _ => Nat.zero_le _
  | f + 1, p, [] => Nat.zero_le _
  | f + 1, p, w :: s => by
    unfold Ut04.marksFrom
    show (if Ut04.longest l (w :: s) = 0 then _ else _ : List (Nat × Nat)).length ≤ _
    split
    · have := marks_len (l := l) f (p + 1) s
      rw [List.length_cons]
      omega
    · rename_i hn
      have h1 := marks_len (l := l) f (p + Ut04.longest l (w :: s)) ((w :: s).drop (Ut04.longest l (w :: s)))
      rw [List.length_drop] at h1
      rw [List.length_cons]
      have h2 : 1 ≤ (w :: s).length := by rw [List.length_cons]; omega
      omega
theorem ok_find_marks (T : Txt K mg) : FnOk P w K mg base CX0 3 T.f_find_marks T.fd_find_marks ["sentence", "forms"] (sp_find_marks T) := by
  have G_longest_form_at : FnOk P w K mg base CX0 1 _ _ _ _ := ok_longest_form_at T
  have G_Mark_init : FnOk P w K mg base CX0 1 _ _ _ _ := ok_Mark_init T
  refine T.F_find_marks.ok sc_find_marks (fun vs H Q E h => ?_) (fun cdv A outer s H vs Q E hr h => ?_)
  · obtain ⟨s, d, ws, l, rfl, _⟩ := h
    rfl
  · obtain ⟨sa, d, ws, l, rfl, hS, hd, hl, hlen, k⟩ := h
    refine ⟨_, (pss_cons (ps_set (i := 2) sc_find_marks.nd rfl (Or.inl rfl) (pe_lst pa_nil))
      (pss_cons (ps_set (i := 3) sc_find_marks.nd rfl (Or.inl rfl) pe_int)
      (pss_cons (ps_while PassesOwn.never (pt_cmpR op_lt (pv 3) (pe_callB call_len_seq (by rfl) T.z_len PySem.boot_len (pa_cons (pv 0) pa_nil)) (nomark _))
      (pss_cons (ps_set (i := 4) sc_find_marks.nd rfl (Or.inl rfl) (pe_call G_longest_form_at (hr.mono (by decide)) rfl T.g_longest_form_at T.F_longest_form_at.kp T.b_longest_form_at .nil pass0 (pa_cons (pv 0) (pa_cons (pv 3) (pa_cons (pv 1) pa_nil)))))
      (pss_one (ps_if (pt_cmpR op_gt (pe_callB call_len_seq (by rfl) T.z_len PySem.boot_len (pa_cons (pv 4) pa_nil)) pe_int (nomark _))
      (pss_cons (ps_expr (pe_bm PySem.F.plainAttrs_list PySem.F.slot_list_append PySem.F.type_list_append mt_append (pv 2) (pa_cons (pe_make T.mk_Mark G_Mark_init (hr.mono (by decide)) rfl T.g_Mark T.b_Mark_init .nil pass0 (pa_cons (pv 3) (pa_cons (pv 4) pa_nil))) pa_nil)))
      (pss_one (ps_set (i := 3) sc_find_marks.nd rfl (Or.inl rfl) (pe_op op_add (pv 3) (pe_callB call_len_seq (by rfl) T.z_len PySem.boot_len (pa_cons (pv 4) pa_nil))))))
      (pss_one (ps_set (i := 3) sc_find_marks.nd rfl (Or.inl rfl) (pe_op op_add (pv 3) pe_int)))))))
      (pss_one (ps_ret (pv 2)))))), ?_⟩
    refine ⟨big (by show 0 ≤ 1000000; decide), fun a na => ?_⟩
    generalize hG0 : upd _ a _ = H0
    have e0 := nwE hG0 na
    have ha := nwP hG0
    refine ⟨fun m σ H' => ∃ (p : Nat) (ms : Ms) (f : Nat) (v4 : Option V), m = ws.length - p ∧ σ = [some (.ref sa), some (.ref d), some (.ref a), some (.int (p : Int)), v4] ∧ Same H H' ∧ MarksAt T H' a ws ms ∧ p ≤ ws.length ∧ ms.length ≤ p ∧
      ws.length - p < f ∧ Ut04.marks l ws = ms.map (·.2) ++ Ut04.marksFrom l f p (ws.drop p), ⟨ws.length, 0, [], ws.length + 1, none, rfl, rfl, e0, ⟨ha, fun m hm => nomatch hm⟩, Nat.zero_le _, Nat.le_refl _, by omega, rfl⟩, ?_⟩
    rintro m σ H' ⟨p, ms, f, v4, rfl, rfl, e5, hms, hp, hml, hf, hmk⟩
    refine ⟨_, rfl, _, rfl, sa, _, rfl, .inl (e5.seq hS), _, _, rfl, rfl, _, rfl, ifb (fun c => ?_) (fun c => ?_)⟩
    · rw [vI_length] at c
      have hpl : p < ws.length := by have := of_decide_eq_true c; omega
      refine ⟨fun σ2 H2 => ∃ (p2 : Nat) (ms2 : Ms) (f2 : Nat) (v4 : Option V), p < p2 ∧ σ2 = [some (.ref sa), some (.ref d), some (.ref a), some (.int (p2 : Int)), v4] ∧ Same H H2 ∧ MarksAt T H2 a ws ms2 ∧ p2 ≤ ws.length ∧ ms2.length ≤ p2 ∧
        ws.length - p2 < f2 ∧ Ut04.marks l ws = ms2.map (·.2) ++ Ut04.marksFrom l f2 p2 (ws.drop p2), fun σ2 H2 ⟨p2, ms2, f2, v4, q1, q2, q3, q4, q5, q6, q7, q8⟩ => ⟨ws.length - p2, by omega, p2, ms2, f2, v4, rfl, q2, q3, q4, q5, q6, q7, q8⟩, ?_⟩
      refine ⟨_, rfl, _, rfl, _, rfl, sa, d, p, ws, keysOf l, rfl, e5.seq hS, e5 _ _ hd, hp, hlen, fun H1 q e6 hq => ?_⟩
      obtain ⟨f0, rfl⟩ : ∃ f0, f = f0 + 1 := ⟨f - 1, by omega⟩
      have hlong : longAt (keysOf l) (ws.drop p) (min 4 (ws.length - p)) = Ut04.longest l (ws.drop p) := by
        rw [longAt_congr (keysOf_contains l), longest_eq hl, List.length_drop]
      rw [hlong] at hq
      have hle := longest_le l (ws.drop p)
      rw [List.length_drop] at hle
      generalize hn : Ut04.longest l (ws.drop p) = n at hq hle
      have hqlen : ((ws.drop p).take n).length = n := by rw [List.length_take, List.length_drop]; omega
      refine ⟨_, rfl, q, _, rfl, .inr (SqT.of hq), _, _, rfl, rfl, _, rfl, ifb (fun c2 => ?_) (fun c2 => ?_)⟩
      · rw [vI_length, hqlen] at c2
        have hn0 : n ≠ 0 := by have := of_decide_eq_true c2; omega
        have hms1 := hms.ex e6
        refine ⟨_, rfl, .inl ⟨rfl, _, SqL.of hms1.1⟩, _, rfl, _, rfl, ?_⟩
        intro x dx nx ndx nex
        have s0 : Same H1 (upd (upd H1 dx (.own x)) x (.ins T.C_Mark dx [])) := fun b o e => by
          rw [upd_ne (ne_of_none e nx), upd_ne (ne_of_none e ndx)]
          exact e
        refine ⟨x, dx, q, p, (ws.drop p).take n, rfl, upd_same, s0 _ _ hq, fun H3 hx e7 => ?_⟩
        have e8 : Same H1 H3 := fun b o hh => e7 b o (ne_of_none hh nx) (s0 b o hh)
        have hms3 := hms1.ex e8
        obtain ⟨dx3, hx3⟩ := hx
        rw [hqlen] at hx3
        refine ⟨rfl, a, _, _, rfl, rfl, hms3.1, bigl (by rw [List.length_map]; omega), ?_⟩
        generalize hG4 : upd H3 a _ = H4
        have ha4 : H4 a = some (.lst ((ms ++ [(x, (p, p + n))]).map fun m => V.ref m.1)) := by
          rw [← hG4, upd_same, List.map_append]
          rfl
        have e9 : ExB a H3 H4 := hG4 ▸ ExB.upd
        have e10 : Same H H4 := fun b o hh => e9 b o (ne_of_none hh na) (e8 _ _ (e6 _ _ (e5 _ _ hh)))
        have nz : ∀ b o, H3 b = some o → (∀ xs, o ≠ .lst xs) → H4 b = some o := fun b o hh hn => e9 b o (ne_of hh hms3.1 (hn _)) hh
        have hq4 := nz _ _ (e8 _ _ hq) (by intro _ z; cases z)
        refine ⟨_, rfl, _, rfl, q, _, rfl, .inr (SqT.of hq4), _, _, rfl, rfl, ?_⟩
        refine ⟨p + n, ms ++ [(x, (p, p + n))], f0, some (.ref q), by omega, ?_, e10, ⟨ha4, ?_⟩, by omega, ?_, by omega, ?_⟩
        · show [some (V.ref sa), some (V.ref d), some (V.ref a), some (V.int ((p : Int) + ((vI ((ws.drop p).take n)).length : Int))), some (V.ref q)] = _
          rw [vI_length, hqlen, show (p : Int) + (n : Int) = ((p + n : Nat) : Int) by omega]
        · intro m hm
          rcases List.mem_append.mp hm with hm | hm
          · obtain ⟨dm, fm, g1, g2⟩ := hms3.2 m hm
            exact ⟨dm, fm, nz _ _ g1 (by intro _ z; cases z), nz _ _ g2 (by intro _ z; cases z)⟩
          · rw [List.mem_singleton.mp hm]
            refine ⟨dx3, q, nz _ _ hx3 (by intro _ z; cases z), ?_⟩
            rw [slice_eq]
            exact hq4
        · rw [List.length_append, List.length_singleton]
          omega
        · rw [hmk, marks_turn1 hpl hn hn0, List.map_append, List.append_assoc]
          rfl
      · rw [vI_length, hqlen] at c2
        have hn0 : n = 0 := by have := of_decide_eq_false c2; omega
        refine ⟨_, rfl, _, _, rfl, rfl, ?_⟩
        refine ⟨p + 1, ms, f0, some (.ref q), by omega, rfl, e5.trans e6, hms.ex e6, by omega, by omega, by omega, ?_⟩
        rw [hmk, marks_turn0 hpl (by rw [hn]; exact hn0)]
    · rw [vI_length] at c
      have hpl : p = ws.length := by have := of_decide_eq_false c; omega
      refine ⟨_, rfl, k H' a ms e5 na hms ?_⟩
      rw [hmk, marks_end (by omega), List.append_nil]
end
end Rn
set_option Elab.async false
set_option maxRecDepth 100000
set_option maxHeartbeats 4000000
set_option linter.unusedVariables false
namespace Rn
open PySem PySem.Spec PyProof.Rows L2
theorem ints_vI (l : List Nat) : (Ut04.ints l).map V.int = vI l := by
  unfold Ut04.ints vI
  rw [List.map_map]
  rfl
section
variable {P : Program} {w : World} {K : PySem.W.Frag} {mg : Str → Option Value} {base : Heap}
def mChunk (x : Ut04.Mark) : List Nat := [x.1, x.2.1, x.2.2.length] ++ x.2.2
def mkAns (ts : List Ut04.Thing) (s : List Nat) : List Int := if Ut04.sentOk s = false then [-1] else (((Ut04.sourceMarks ts s).length : Nat) : Int) :: Ut04.ints ((Ut04.sourceMarks ts s).flatMap mChunk)
def toMark (us : Us) (ws : List Nat) (x : Nat × Nat) : Ut04.Mark := (x.1, x.2, Ut04.calledSource (ths us) (Ut04.slice ws x))
theorem sourceMarks_eq {us : Us} {ws : List Nat} {ms : Ms} (h : ms.map (·.2) = Ut04.marks (srcs us) ws) : Ut04.sourceMarks (ths us) ws = ms.map fun m => toMark us ws m.2 := by
  unfold Ut04.sourceMarks
  rw [srcs_eq, ← h, List.map_map]
  rfl
def sp_tell_marks (T : Txt K mg) : Sp := fun vs H Q _ => ∃ (a sa : Addr) (us : Us) (ws : List Nat), vs = [.ref a, .ref sa] ∧ KeptAt T H a us ∧ us.length ≤ 8 ∧ SqL K H sa (vI ws) ∧ ws.length ≤ 1000 ∧
  ∀ H' p, Same H H' → H p = none → H' p = some (.lst ((mkAns (ths us) ws).map V.int)) → Q (.ref p) H'
theorem ok_tell_marks (T : Txt K mg) : FnOk P w K mg base CX0 4 T.f_tell_marks T.fd_tell_marks ["terms", "sentence"] (sp_tell_marks T) := by
  have G_all_source_forms : FnOk P w K mg base CX0 1 _ _ _ _ := ok_all_source_forms T
  have G_find_marks : FnOk P w K mg base CX0 3 _ _ _ _ := ok_find_marks T
  have G_is_sentence : FnOk P w K mg base CX0 2 _ _ _ _ := ok_is_sentence T
  have G_refusal : FnOk P w K mg base CX0 1 _ _ _ _ := ok_refusal T
  have G_things_meant : FnOk P w K mg base CX0 2 _ _ _ _ := ok_things_meant T
  have G_numbered : FnOk P w K mg base CX0 1 _ _ _ _ := ok_numbered T
  refine T.F_tell_marks.ok sc_tell_marks (fun vs H Q E h => ?_) (fun cdv A outer s H vs Q E hr h => ?_)
  · obtain ⟨a, sa, us, ws, rfl, _⟩ := h
    rfl
  · obtain ⟨a, sa, us, ws, rfl, hk, hlen, hS, hwl, k⟩ := h
    refine ⟨_, (pss_cons (ps_if (pt_not (pt_val (pe_call G_is_sentence (hr.mono (by decide)) rfl T.g_is_sentence T.F_is_sentence.kp T.b_is_sentence .nil pass0 (pa_cons (pv 1) pa_nil))))
      (pss_one (ps_ret (pe_call G_refusal (hr.mono (by decide)) rfl T.g_refusal T.F_refusal.kp T.b_refusal .nil pass0 (pa_cons (pe_glob (v := .int 1) rfl T.g_NOT_FITTING ⟨_, rfl⟩) pa_nil))))
      pss_nil)
      (pss_cons (ps_set (i := 2) sc_tell_marks.nd rfl (Or.inl rfl) (pe_call G_find_marks (hr.mono (by decide)) rfl T.g_find_marks T.F_find_marks.kp T.b_find_marks .nil pass0 (pa_cons (pv 1) (pa_cons (pe_call G_all_source_forms (hr.mono (by decide)) rfl T.g_all_source_forms T.F_all_source_forms.kp T.b_all_source_forms .nil pass0 (pa_cons (pv 0) pa_nil)) pa_nil))))
      (pss_cons (ps_set (i := 3) sc_tell_marks.nd rfl (Or.inl rfl) (pe_lst (pa_cons (pe_callB call_len_seq (by rfl) T.z_len PySem.boot_len (pa_cons (pv 2) pa_nil)) pa_nil)))
      (pss_cons (ps_for PassesOwn.never rfl (pi_list (pv 2)) (pg_name (i := 4) sc_tell_marks.nd rfl (Or.inl rfl))
      (pss_one (ps_set (i := 3) sc_tell_marks.nd rfl (Or.inl rfl) (pe_op op_cat (pe_op op_cat (pv 3) (pe_lst (pa_cons (pe_fld (pv 4) rfl) (pa_cons (pe_fld (pv 4) rfl) pa_nil)))) (pe_call G_numbered (hr.mono (by decide)) rfl T.g_numbered T.F_numbered.kp T.b_numbered .nil pass0 (pa_cons (pe_call G_things_meant (hr.mono (by decide)) rfl T.g_things_meant T.F_things_meant.kp T.b_things_meant .nil pass0 (pa_cons (pv 0) (pa_cons (pe_fld (pv 4) rfl) pa_nil))) pa_nil))))))
      (pss_one (ps_ret (pv 3))))))), ?_⟩
    refine ⟨_, rfl, sa, ws, rfl, .inl hS, hwl, fun H0 e0 => ⟨_, rfl, ?_⟩⟩
    unfold mkAns at k
    cases hso : Ut04.sentOk ws with
    | false =>
      rw [if_pos hso] at k
      exact ⟨1, rfl, fun H1 p e1 n1 h1 => k H1 p (e0.trans e1) (e0.free n1) h1⟩
    | true =>
      rw [if_neg (by rw [hso]; decide)] at k
      refine ⟨_, rfl, _, rfl, a, us, rfl, hk.ex e0, hlen, fun H1 d e1 n1 h1 => ?_⟩
      have hforms : ∀ f ∈ srcs us, 1 ≤ f.length ∧ f.length ≤ 4 := by
        obtain ⟨_, l', _, _, _, q3⟩ := id hk
        exact fun f hf => formOk_len (srcs_mem q3 hf)
      refine ⟨sa, d, ws, srcs us, rfl, (e0.trans e1).seq hS, h1, hforms, hwl, fun H2 l ms e2 n2 hms hmk => ?_⟩
      have e02 := (e0.trans e1).trans e2
      have hsm := sourceMarks_eq hmk
      have hmsl : ms.length ≤ 1000 := by
        have q := marks_len (l := srcs us) (ws.length + 1) 0 ws
        have q2 : (ms.map (·.2)).length = (Ut04.marks (srcs us) ws).length := by rw [hmk]
        rw [List.length_map] at q2
        unfold Ut04.marks at q2
        omega
      refine ⟨_, rfl, l, _, rfl, .inl (SqL.of hms.1), big (by show 1 ≤ 1000000; decide), fun p0 n3 => ?_⟩
      generalize hG3 : upd _ p0 _ = H3
      have e3 := nwE hG3 n3
      have hp0 := nwP hG3
      rw [List.length_map] at hp0
      have e03 := e02.trans e3
      have hms3 := hms.ex e3
      refine ⟨_, rfl, l, rfl, ⟨_, SqL.of hms3.1⟩, for_it (walk_list (K := K) (a := l) (xs := ms.map fun m => V.ref m.1))
        (fun i σ H' => ∃ (p : Addr) (v4 : Option V), σ = [some (.ref a), some (.ref sa), some (.ref l), some (.ref p), v4] ∧ Same H3 H' ∧ H p = none ∧ H' p = some (.lst (vI (ms.length :: ((ms.take i).map fun m => toMark us ws m.2).flatMap mChunk))) ∧ (((ms.take i).map fun m => toMark us ws m.2).flatMap mChunk).length ≤ 20 * i)
        ⟨p0, none, rfl, Same.refl _, e02.free n3, hp0, Nat.zero_le _⟩ (fun i σ H' _ ⟨_, _, _, e5, _⟩ => SqL.of (e5 _ _ hms3.1)) ?_ ?_⟩
      · rintro i x σ H' H4 hi ⟨p, v4, rfl, e5, np, hp, hn⟩ ⟨rfl, hx⟩
        obtain ⟨m, hm', rfl⟩ := at_map hx
        have hi' : i < ms.length := (List.getElem?_eq_some_iff.mp hm').1
        obtain ⟨dm, fm, g1, g2⟩ := (hms3.2 m (List.mem_of_getElem? hm')).ex e5
        refine ⟨_, rfl, _, rfl, m.1, _, dm, _, _, rfl, g1, T.cl_Mark, T.n_Mark_begin, lk_Mark_begin _ _ _, _, rfl, m.1, _, dm, _, _, rfl, g1, T.cl_Mark, T.n_Mark_end, lk_Mark_end _ _ _, big (by show 2 ≤ 1000000; decide), fun p1 n5 => ?_⟩
        generalize hG5 : upd _ p1 _ = H5
        have e6 := nwE hG5 n5
        have hp1 := nwP hG5
        refine cat_step (e6 _ _ hp) hp1 (by rw [vI_length]; simp only [List.length_cons, List.length_nil]; omega) fun p2 H6 e7 n6 h6 => ?_
        have e46 := e6.trans e7
        refine ⟨_, rfl, _, rfl, m.1, _, dm, _, _, rfl, e46 _ _ g1, T.cl_Mark, T.n_Mark_form, lk_Mark_form _ _ _, a, fm, us, _, rfl, hk.ex ((e03.trans e5).trans e46), hlen, e46 _ _ g2, fun H7 l7 e8 n7 t7 => ?_⟩
        have hf8 : (us.filter fun u => meant u.2 (Ut04.slice ws m.2)).length ≤ 8 := Nat.le_trans (List.length_filter_le _ _) hlen
        refine ⟨l7, _, rfl, t7, by omega, fun H8 l8 e9 n8 h8 => ?_⟩
        refine cat_step (e9 _ _ (e8 _ _ h6)) h8 (by simp only [List.length_append, vI_length, List.length_cons, List.length_nil, nums_eq, List.length_map]; omega) fun p3 H9 e10 n9 h9 => ?_
        have e49 := (e46.trans e8).trans (e9.trans e10)
        have hcal : Ut04.calledSource (ths us) (Ut04.slice ws m.2) = (us.filter fun u => meant u.2 (Ut04.slice ws m.2)).map fun u => u.2.number := called_src us _
        refine ⟨p3, some (.ref m.1), rfl, e5.trans e49, ?_, ?_, ?_⟩
        · exact (((e03.trans e5).trans e46).trans (e8.trans e9)).free n9
        · rw [h9, take_more hm', List.map_append, List.flatMap_append, List.map_singleton, List.flatMap_singleton]
          unfold mChunk toMark
          simp only [vI_append, vI_cons, hcal, nums_eq, List.length_map, List.append_assoc, List.cons_append, List.nil_append]
        · rw [take_more hm', List.map_append, List.flatMap_append, List.map_singleton, List.flatMap_singleton, List.length_append]
          show _ + ([m.2.1, m.2.2, (Ut04.calledSource (ths us) (Ut04.slice ws m.2)).length] ++ Ut04.calledSource (ths us) (Ut04.slice ws m.2)).length ≤ _
          rw [hcal]
          simp only [List.length_append, List.length_cons, List.length_nil, List.length_map]
          omega
      · rintro σ H' ⟨p, v4, rfl, e5, np, hp, hn⟩
        refine ⟨_, rfl, k H' p (e03.trans e5) np ?_⟩
        rw [hp, List.length_map, List.take_length, hsm, List.length_map, List.map_cons, ints_vI]
        rfl
end
end Rn
set_option Elab.async false
set_option maxRecDepth 100000
set_option maxHeartbeats 4000000
set_option linter.unusedVariables false
namespace Rn
open PySem PySem.Spec PyProof.Rows L2
section
variable {prog : Program} {w : World} {A : Around} {E : Value → Shared → Prop} {s : Shared}
theorem ext_rev {R : Result → Shared → Prop} {rit l : Addr} {arr : Array Value} (calmA : A.handled = none) (isRev : s.heap.IsRevIter rit l ((arr.size : Int) - 1)) (isLst : s.heap.IsList l arr) (apart : l ≠ rit) (fitsN : arr.size ≤ sizeLine) (S : Addr) (newIt : S ≠ rit) (newSrc : S ≠ l) (outV : Value) (c₀ : Nat) (atNew : s.heap.get? S = some { cls := .type "list", data := .seq #[] c₀ })
    (behind : ∀ h' tk acc' c', (∀ b o, b ≠ S → b ≠ rit → s.heap.get? b = some o → h'.get? b = some o) → h'.get? S = some { cls := .type "list", dict := none, data := .seq acc' c', slots := #[] } → ItemsOf (fun i v => arr[arr.size - 1 - i]? = some v) acc' arr.size → R (.ok (.ret outV)) { s with heap := h', toks := tk }) :
    wpAny (model prog w) A.in1 (Builtin.List.listExtendWith (.ref S) (.ref rit) outV)
      (fun fin s' => match fin with | .done f => R (.ok f) s' | .again c' => c'.quiet = true ∧ codeAny (model prog w) A c' R s') (fun e s' => R (.error e) s') s := by
  have walkR := (Walks.listRev (prog := prog) (w := w) (A := A.in1) calmA rit l apart arr).toS
  have newOff : S ∉ [rit, l] := by simp only [List.mem_cons, List.not_mem_nil, or_false, not_or]; exact ⟨newIt, newSrc⟩
  have tyIt : s.TypeIs (.ref rit) "list_reverseiterator" := isRev.typeIs
  have notSame : Builtin.List.listSameRef (.ref S) (.ref rit) = false := by simp [Builtin.List.listSameRef, newIt]
  unfold Builtin.List.listExtendWith
  refine wpAny_bind (wpAny_typeOf tyIt ?_)
  rw [if_neg (by rw [notSame]; decide)]
  refine wpAny_bind (wpAny_pyIter_revIter isRev ?_)
  refine wpAny_bind (wpAny_holding ?_)
  unfold Builtin.List.listLengthHint
  refine wpAny_bind (wpAny_specialOf tyIt RT.nolen_lri ?_)
  show wpAny _ A.in1 (specialOf (Value.ref rit) (Str.ofString "__length_hint__") >>= _) _ _ _
  refine wpAny_bind (wpAny_specialOf tyIt RT.hint_lri ?_)
  generalize eId : ("list_reverseiterator.__length_hint__" : String) = theId
  wp_delta
  rw [show splitId theId = some ("list_reverseiterator", "__length_hint__") from by subst eId; decide +kernel]
  subst eId
  refine wpAny_bind (wpAny_isInstance (b := true) tyIt (by rw [isSubtype_type]; kernel_rfl) ?_)
  refine wpAny_pure ?_
  rw [if_neg (by decide)]
  have eStart : ((arr.size : Nat) : Int) - 1 - ((0 : Nat) : Int) = (arr.size : Int) - 1 := by omega
  refine wpAny_pure ⟨plainId_quiet F.plain_extend_loop _, codeAny_extend_loopS walkR fitsN _ newOff _ arr.size 0 _ _ _ rfl (Nat.zero_le _) ⟨Nat.zero_le _, by rw [eStart]; exact isRev, isLst⟩ atNew (ItemsOf.nil _) fun s' acc' c' mv hS' gotAll => ?_⟩
  rw [Moved.eq_with mv]
  refine behind s'.heap s'.toks acc' c' (fun b o bNew bIt e => mv.heap b o (fun inOff => ?_) e) hS' gotAll
  rcases List.mem_cons.mp inOff with e' | inOff
  · exact bNew e'
  · exact bIt (List.mem_singleton.mp inOff)
theorem call_list_rev {rit l : Addr} {arr : Array Value} {Q : Value → Shared → Prop} (calmA : A.handled = none) (isRev : s.heap.IsRevIter rit l ((arr.size : Int) - 1)) (isLst : s.heap.IsList l arr) (apart : l ≠ rit) (fitsN : arr.size ≤ sizeLine)
    (then_ : ∀ h' tk acc' c', (∀ b o, b ≠ rit → s.heap.get? b = some o → h'.get? b = some o) → h'.get? s.heap.objs.size = some { cls := .type "list", dict := none, data := .seq acc' c', slots := #[] } → ItemsOf (fun i v => arr[arr.size - 1 - i]? = some v) acc' arr.size → Q (.ref s.heap.objs.size) { s with heap := h', toks := tk }) :
    wpAny (model prog w) A (call (.type "list") [.ref rit]) Q E s := by
  refine callType_codes (Q₁ := fun obj s₁ => obj = .ref s.heap.objs.size ∧ s₁ = { s with heap := s.heap.push { cls := .type "list", data := .seq #[] } }) PySem.F.called_list (PySem.F.typeCall_list_1 _) PySem.F.entry_list_init
    (code_list_new _ ⟨rfl, rfl⟩) fun obj s₁ h₁ => ?_
  obtain ⟨rfl, rfl⟩ := h₁
  have atNew : (s.heap.push { cls := .type "list", data := .seq #[] }).get? s.heap.objs.size = some { cls := .type "list", data := .seq #[] } := Heap.get?_push_size _ rfl
  obtain ⟨oi, atIt, _⟩ := id isRev
  obtain ⟨ol, atSrc, _⟩ := id isLst
  have newIt : s.heap.objs.size ≠ rit := Nat.ne_of_gt (Heap.lt_size atIt)
  have newSrc : s.heap.objs.size ≠ l := Nat.ne_of_gt (Heap.lt_size atSrc)
  refine ⟨⟨_, atNew, rfl⟩, PySem.F.args_list_init_2 _ _, ?_⟩
  show wpAny _ _ (do let old ← Builtin.List.listItems (.ref s.heap.objs.size); Builtin.List.listUpdate (.ref s.heap.objs.size) (fun _ => #[]); letGo old.toList.reverse; Builtin.List.listExtendWith (.ref s.heap.objs.size) (.ref rit) .none) _ _ _
  refine wpAny_bind ?_
  unfold Builtin.List.listItems
  refine wpAny_bind (wpAny_seqItems atNew rfl (wpAny_pure ?_))
  show wpAny _ _ (updateSeq s.heap.objs.size (fun _ => #[]) >>= fun _ => letGo (#[] : Array Value).toList.reverse >>= fun _ => Builtin.List.listExtendWith (.ref s.heap.objs.size) (.ref rit) .none) _ _ _
  refine wpAny_bind (wpAny_updateSeq atNew rfl ?_)
  have atNew₂ := Heap.get?_update_self (Obj.mapSeq (fun _ => (#[] : Array Value))) atNew rfl
  have rest_ : ∀ b o, b ≠ s.heap.objs.size → s.heap.get? b = some o → ((s.heap.push { cls := .type "list", data := .seq #[] }).update s.heap.objs.size (Obj.mapSeq (fun _ => (#[] : Array Value)))).get? b = some o :=
    fun b o bNew e => (Heap.get?_update_other _ _ (Ne.symm bNew)).trans (Heap.get?_push_of_some _ e)
  refine wpAny_bind (wpAny_letGo ?_)
  refine ext_rev (A := A.in1) calmA (isRev.at fun o e => rest_ rit o (Ne.symm newIt) e) ?_ apart fitsN _ newIt newSrc .none _ atNew₂ (fun h' tk acc' c' kept hS' gotAll => ?_)
  · obtain ⟨ol, atSrc, hrest⟩ := id isLst
    exact ⟨ol, rest_ l ol (Ne.symm newSrc) atSrc, hrest⟩
  · exact ⟨rfl, then_ h' tk acc' c' (fun b o bIt e => kept b o (Nat.ne_of_lt (Heap.lt_size e)) bIt (rest_ b o (Nat.ne_of_lt (Heap.lt_size e)) e)) hS' gotAll⟩
end
def tListRev (K : PySem.W.Frag) (te : TE) : TE := fun σ H Q => te σ H fun v hp1 => ∃ (a : Addr) (xs : List V), v = .ref a ∧ SqL K hp1 a xs ∧ ∀ q, hp1 q = none → Q (.ref q) (upd hp1 q (.lst xs.reverse))
theorem pe_listRev {X : Cx} {e : Expr} {te : TE} {p p2 pos pos2 : Pos} (calm_ : X.calm = true) (gList : Gl X "list") (mv : X.mg "list" = none) (gRev : Gl X "reversed") (mRev : X.mg "reversed" = none) (pe_e : PE X e te)
    (st1 : starEach [e] X.env = (false, eval e X.env) :: starEach [] X.env := by rfl)
    (st2 : starEach [.Call (.Name "reversed" p2) [e] [] pos2] X.env = (false, eval (.Call (.Name "reversed" p2) [e] [] pos2) X.env) :: starEach [] X.env := by rfl) :
    PE X (.Call (.Name "list" p) [.Call (.Name "reversed" p2) [e] [] pos2] [] pos) (tListRev X.K te) := by
  refine ⟨fun pins s σ H Q I h => ?_⟩
  refine Call_ (ld_blt I gList mv PyProof.Rows.boot_list (PyProof.Rows.callWith_type1 (args_cons (Call_ (ld_blt I gRev mRev PyProof.Rows.boot_reversed (PyProof.Rows.callWith_type1 (args_cons (thn (pe_e.run pins s σ H _ I h) fun u st_1 ⟨v, hp1, inv1, rel1, wish1⟩ => args_nil ?_) st1) st1 rfl))) st2) st2 rfl))
  obtain ⟨a, xs, eqv_, sq, q⟩ := wish1
  subst eqv_
  obtain rfl : u = Value.ref a := rel1
  obtain ⟨vals, relV, p', zl⟩ := inv1.list sq
  refine call_reversed_list p'.isList (args_nil ?_)
  have isLst := p'.isList
  obtain ⟨ol, atSrc, _⟩ := id isLst
  have apart : a ≠ st_1.heap.objs.size := Nat.ne_of_lt (Heap.lt_size atSrc)
  have fitsN : vals.toArray.size ≤ sizeLine := by rw [List.size_toArray, ← relV.length]; exact zl
  refine call_list_rev (s := { st_1 with heap := st_1.heap.push (revObj a ((vals.toArray.size : Int) - 1)) }) (inv1.ok.hd calm_) ⟨_, Heap.get?_push_size _ rfl, rfl, rfl⟩ (isLst.push _) apart fitsN fun h' tk acc c' kept atNew gotI => ?_
  have szl : st_1.heap.objs.size ≤ (st_1.heap.push (revObj a ((vals.toArray.size : Int) - 1))).objs.size := by rw [Heap.size_push]; exact Nat.le_succ _
  refine ⟨.ref (st_1.heap.push (revObj a ((vals.toArray.size : Int) - 1))).objs.size, upd hp1 (st_1.heap.push (revObj a ((vals.toArray.size : Int) - 1))).objs.size (.lst xs.reverse), inv1.laid (t' := tk) (fun b o e => kept b o (Nat.ne_of_lt (Heap.lt_size e)) (Heap.get?_push_of_some _ e)) szl ⟨by rw [List.length_reverse]; exact zl, acc.toList, c', RT.vals_rev relV gotI, ?_⟩, rfl, q _ (inv1.hok.fresh szl)⟩
  rw [Array.toArray_toList]
  exact atNew
end Rn
set_option Elab.async false
set_option maxRecDepth 100000
set_option maxHeartbeats 4000000
set_option linter.unusedVariables false
namespace Rn
open PySem PySem.Spec PyProof.Rows L2
/-! ### bits -/
theorem shl_one (t : Nat) : (1 : Int) * 2 ^ ((t : Int).toNat) = ((2 ^ t : Nat) : Int) := by
  rw [Int.toNat_natCast, Int.one_mul, Int.natCast_pow]
  rfl
theorem shl_asg {σ : L2.St} {i j t : Nat} {D : Ends} {H : Hp} (hv : σ[j]? = some (some (.int (t : Int)))) (ht : t ≤ 1000) (k : D.nx (σ.set i (some (.int ((2 ^ t : Nat) : Int)))) H) :
    tAsg (tOp (rI CPow fun i j => .int (i * 2 ^ j.toNat)) (tC (.int 1)) (tVar j)) (gName i) D σ H := by
  refine ⟨_, hv, _, _, rfl, rfl, ⟨by omega, by omega, by decide⟩, ?_⟩
  rw [← shl_one] at k
  exact k
theorem and_pow (k t : Nat) : k &&& 2 ^ t = (k.testBit t).toNat * 2 ^ t := by
  refine Nat.eq_of_testBit_eq fun j => ?_
  rw [Nat.testBit_and, Nat.testBit_two_pow]
  by_cases e : t = j
  · subst e
    cases k.testBit t with
    | true => rw [show Bool.toNat true = 1 from rfl, Nat.one_mul, Nat.testBit_two_pow]; simp
    | false => rw [show Bool.toNat false = 0 from rfl, Nat.zero_mul, Nat.zero_testBit]; simp
  · cases k.testBit t with
    | true => rw [show Bool.toNat true = 1 from rfl, Nat.one_mul, Nat.testBit_two_pow]; simp [e]
    | false => rw [show Bool.toNat false = 0 from rfl, Nat.zero_mul, Nat.zero_testBit]; simp [e]
theorem and_bit (k t : Nat) : Builtin.bitAnd (k : Int) ((2 ^ t : Nat) : Int) = (((k.testBit t).toNat * 2 ^ t : Nat) : Int) := by
  rw [bitAnd_pp (Int.natCast_nonneg _) (Int.natCast_nonneg _), Int.toNat_natCast, Int.toNat_natCast, and_pow]
theorem or_bit (k t : Nat) : Builtin.bitOr (k : Int) ((2 ^ t : Nat) : Int) = ((k ||| 2 ^ t : Nat) : Int) := by
  rw [Bits.bitOr_pp (Int.natCast_nonneg _) (Int.natCast_nonneg _), Int.toNat_natCast, Int.toNat_natCast]
theorem bit_free (k t : Nat) : decide (V.int (Builtin.bitAnd (k : Int) ((2 ^ t : Nat) : Int)) = V.int 0) = !k.testBit t := by
  rw [and_bit]
  cases k.testBit t with
  | true =>
    have : (1 * 2 ^ t : Nat) ≠ 0 := by
      have := Nat.two_pow_pos t
      omega
    exact decide_eq_false fun q => by injection q with q; exact this (by exact_mod_cast q)
  | false => exact decide_eq_true (by show V.int ((0 * 2 ^ t : Nat) : Int) = V.int 0; rw [Nat.zero_mul]; rfl)
theorem or_lt {k t m : Nat} (hk : k < 2 ^ m) (ht : t < m) : k ||| 2 ^ t < 2 ^ m := Nat.or_lt_two_pow hk (Nat.pow_lt_pow_right (by decide) ht)
/-! ### tables -/
def tab (m : Nat) (r : List (List Nat)) : List Nat := (List.range (2 ^ m)).map (mostM r)
theorem tab_len (m : Nat) (r : List (List Nat)) : (tab m r).length = 2 ^ m := by
  unfold tab
  rw [List.length_map, List.length_range]
theorem tab_at {m k : Nat} (r : List (List Nat)) (h : k < 2 ^ m) : (tab m r)[k]? = some (mostM r k) := by
  unfold tab
  rw [List.getElem?_map, List.getElem?_range h]
  rfl
theorem most_le : ∀ (r : List (List Nat)) (k : Nat), mostM r k ≤ r.length
  | [], _ => Nat.le_refl _
  | ps :: r, k => by
    show ps.foldl (fun n j => if k.testBit j = true then n else max n (1 + mostM r (k ||| 2 ^ j))) (mostM r k) ≤ _
    have go : ∀ (l : List Nat) (n : Nat), n ≤ r.length + 1 → l.foldl (fun n j => if k.testBit j = true then n else max n (1 + mostM r (k ||| 2 ^ j))) n ≤ r.length + 1 := by
      intro l
      induction l with
      | nil => exact fun n h => h
      | cons j l ih =>
        intro n h
        rw [List.foldl_cons]
        refine ih _ ?_
        split
        · exact h
        · have := most_le r (k ||| 2 ^ j)
          omega
    rw [List.length_cons]
    exact go ps _ (Nat.le_succ_of_le (most_le r k))
def mstep (r : List (List Nat)) (k : Nat) (n j : Nat) : Nat := if k.testBit j = true then n else max n (1 + mostM r (k ||| 2 ^ j))
theorem mstep_no {r : List (List Nat)} {k n j : Nat} (h : k.testBit j = false) : mstep r k n j = max n (1 + mostM r (k ||| 2 ^ j)) := by
  unfold mstep
  rw [h, if_neg Bool.false_ne_true]
theorem most_cons (ps : List Nat) (r : List (List Nat)) (k : Nat) : mostM (ps :: r) k = ps.foldl (mstep r k) (mostM r k) := rfl
theorem pow_le7 {m : Nat} (h : m ≤ 7) : 2 ^ m ≤ 128 := Nat.pow_le_pow_right (n := 2) (by decide) h
section
variable {P : Program} {w : World} {K : PySem.W.Frag} {mg : Str → Option Value} {base : Heap}
def sp_most_with_one_more : Sp := fun vs H Q _ => ∃ (pa ba : Addr) (ps : List Nat) (m : Nat) (r : List (List Nat)), vs = [.ref pa, .ref ba] ∧ H pa = some (.lst (vI ps)) ∧ H ba = some (.lst (vI (tab m r))) ∧ (∀ j ∈ ps, j < m) ∧ m ≤ 7 ∧
  ∀ H' l, Same H H' → H l = none → H' l = some (.lst (vI (tab m (ps :: r)))) → Q (.ref l) H'
theorem ok_most_with_one_more (T : Txt K mg) : FnOk P w K mg base CX0 1 T.f_most_with_one_more T.fd_most_with_one_more ["partners", "most_behind"] sp_most_with_one_more := by
  refine T.F_most_with_one_more.ok sc_most_with_one_more (fun vs H Q E h => ?_) (fun cdv A outer s H vs Q E hr h => ?_)
  · obtain ⟨pa, ba, ps, m, r, rfl, _⟩ := h
    rfl
  · obtain ⟨pa, ba, ps, m, r, rfl, hp, hb, hps, hm, k⟩ := h
    have hpow := pow_le7 hm
    refine ⟨_, (pss_cons (ps_set (i := 2) sc_most_with_one_more.nd rfl (Or.inl rfl) (pe_lst pa_nil))
      (pss_cons (ps_for PassesOwn.never rfl (pi_range1 (by rfl) T.z_range (pa_cons (pe_callB call_len_seq (by rfl) T.z_len PySem.boot_len (pa_cons (pv 1) pa_nil)) pa_nil)) (pg_name (i := 3) sc_most_with_one_more.nd rfl (Or.inl rfl))
      (pss_cons (ps_set (i := 4) sc_most_with_one_more.nd rfl (Or.inl rfl) (pe_ix ix_list (pv 1) (pv 3) (fun _ _ => rfl)))
      (pss_cons (ps_for PassesOwn.never rfl (pi_list (pv 0)) (pg_name (i := 5) sc_most_with_one_more.nd rfl (Or.inl rfl))
      (pss_cons (ps_set (i := 6) sc_most_with_one_more.nd rfl (Or.inl rfl) (pe_op op_shl pe_int (pv 5)))
      (pss_one (ps_if (pt_cmpR op_eq (pe_op op_and (pv 3) (pv 6)) pe_int (nomark _))
      (pss_one (ps_set (i := 4) sc_most_with_one_more.nd rfl (Or.inl rfl) (pe_callB (call_max2 rfl) (by rfl) T.z_max PyProof.Rows.boot_max (pa_cons (pv 4) (pa_cons (pe_op op_add pe_int (pe_ix ix_list (pv 1) (pe_op op_or (pv 3) (pv 6)) (fun _ _ => rfl))) pa_nil)))))
      pss_nil))))
      (pss_one (ps_expr (pe_bm PySem.F.plainAttrs_list PySem.F.slot_list_append PySem.F.type_list_append mt_append (pv 2) (pa_cons (pv 4) pa_nil)))))))
      (pss_one (ps_ret (pv 2))))), ?_⟩
    refine ⟨big (by show 0 ≤ 1000000; decide), fun mo n0 => ?_⟩
    generalize hG0 : upd _ mo _ = H0
    have e0 := nwE hG0 n0
    have hmo := nwP hG0
    refine ⟨_, rfl, ba, _, rfl, .inl (SqL.of (e0 _ _ hb)), _, rfl, (by rw [vI_length, tab_len]; exact Int.le_trans (by decide) (Int.natCast_nonneg _)), (by rw [vI_length, tab_len]; exact Int.lt_of_le_of_lt (Int.ofNat_le.mpr hpow) (by decide)), ?_⟩
    rw [vI_length, tab_len, Int.toNat_natCast]
    refine for_it (walk_range (lo := 0) (n := 2 ^ m)) (fun i σ H' => ∃ v3 v4 v5 v6 : Option V, σ = [some (.ref pa), some (.ref ba), some (.ref mo), v3, v4, v5, v6] ∧ Same H H' ∧ H' mo = some (.lst (vI ((List.range i).map (mostM (ps :: r))))))
      ⟨none, none, none, none, rfl, e0, hmo⟩ (fun _ _ _ _ _ => trivial) ?_ ?_
    · rintro i x σ H' H2 hi ⟨v3, v4, v5, v6, rfl, e5, h5⟩ ⟨rfl, rfl⟩
      have ez : (fun (i : Nat) => V.int ((0 : Int) + (i : Int))) i = V.int (i : Int) := by
        show V.int ((0 : Int) + (i : Int)) = _
        rw [Int.zero_add]
      rw [ez]
      refine ⟨_, rfl, _, rfl, ba, _, _, _, rfl, rfl, SqL.of (e5 _ _ hb), atI_nat (vI_at (tab_at r hi)), ?_⟩
      refine ⟨_, rfl, pa, rfl, ⟨_, SqL.of (e5 _ _ hp)⟩, for_it (walk_list (K := K) (a := pa) (xs := vI ps))
        (fun j σ H' => ∃ v5 v6 : Option V, σ = [some (.ref pa), some (.ref ba), some (.ref mo), some (.int (i : Int)), some (.int (((ps.take j).foldl (mstep r i) (mostM r i) : Nat) : Int)), v5, v6] ∧ H' = H2)
        ⟨v5, v6, rfl, rfl⟩ (fun _ _ _ _ ⟨_, _, _, q⟩ => q ▸ SqL.of (e5 _ _ hp)) ?_ ?_⟩
      · rintro j x σ H3 H4 hj ⟨v5, v6, rfl, rfl⟩ ⟨rfl, hx⟩
        obtain ⟨t, ht', rfl⟩ := at_map hx
        have htm := hps t (List.mem_of_getElem? ht')
        refine shl_asg (t := t) (i := 6) (j := 5) rfl (by omega) ?_
        refine ⟨_, rfl, _, rfl, _, _, rfl, rfl, rfl, _, rfl, ?_⟩
        rw [bit_free]
        refine ifb (fun c => ?_) (fun c => ?_)
        · have c' : i.testBit t = false := by
            cases q : i.testBit t with
            | true => rw [q] at c; cases c
            | false => rfl
          refine ⟨_, rfl, _, rfl, _, rfl, _, rfl, _, _, rfl, rfl, ba, _, _, _, rfl, rfl, SqL.of (e5 _ _ hb), (by rw [or_bit]; exact atI_nat (vI_at (tab_at r (or_lt hi htm)))), _, _, rfl, rfl, _, _, rfl, ?_⟩
          refine ⟨some (.int (t : Int)), some (.int ((2 ^ t : Nat) : Int)), ?_, rfl⟩
          rw [take_more ht', List.foldl_append]
          show [some (V.ref pa), some (V.ref ba), some (V.ref mo), some (V.int (i : Int)), some (V.int (if (1 : Int) + ((mostM r (i ||| 2 ^ t) : Nat) : Int) > (((ps.take j).foldl (mstep r i) (mostM r i) : Nat) : Int) then (1 : Int) + ((mostM r (i ||| 2 ^ t) : Nat) : Int) else (((ps.take j).foldl (mstep r i) (mostM r i) : Nat) : Int))), some (V.int (t : Int)), some (V.int ((2 ^ t : Nat) : Int))] = _
          have em : (if (1 : Int) + ((mostM r (i ||| 2 ^ t) : Nat) : Int) > (((ps.take j).foldl (mstep r i) (mostM r i) : Nat) : Int) then (1 : Int) + ((mostM r (i ||| 2 ^ t) : Nat) : Int) else (((ps.take j).foldl (mstep r i) (mostM r i) : Nat) : Int)) = ((List.foldl (mstep r i) ((ps.take j).foldl (mstep r i) (mostM r i)) [t] : Nat) : Int) := by
            show _ = ((mstep r i ((ps.take j).foldl (mstep r i) (mostM r i)) t : Nat) : Int)
            rw [mstep_no c']
            generalize (ps.take j).foldl (mstep r i) (mostM r i) = nn
            split <;> omega
          rw [em]
        · have c' : i.testBit t = true := by
            cases q : i.testBit t with
            | true => rfl
            | false => rw [q] at c; cases c
          refine ⟨some (.int (t : Int)), some (.int ((2 ^ t : Nat) : Int)), ?_, rfl⟩
          rw [take_more ht', List.foldl_append]
          show _ = [some (V.ref pa), some (V.ref ba), some (V.ref mo), some (V.int (i : Int)), some (V.int ((mstep r i ((ps.take j).foldl (mstep r i) (mostM r i)) t : Nat) : Int)), some (V.int (t : Int)), some (V.int ((2 ^ t : Nat) : Int))]
          have em : mstep r i ((ps.take j).foldl (mstep r i) (mostM r i)) t = (ps.take j).foldl (mstep r i) (mostM r i) := if_pos c'
          rw [em]
          rfl
      · rintro σ H3 ⟨v5, v6, rfl, rfl⟩
        rw [vI_length, List.take_length, ← most_cons]
        refine ⟨_, rfl, .inl ⟨rfl, _, SqL.of h5⟩, _, rfl, mo, _, _, rfl, rfl, h5, bigl (by rw [vI_length, List.length_map, List.length_range]; omega), ?_⟩
        refine ⟨_, _, _, _, rfl, Ex.mut e5 n0, ?_⟩
        rw [upd_same, List.range_succ, List.map_append, vI_append]
        rfl
    · rintro σ H' ⟨v3, v4, v5, v6, rfl, e5, h5⟩
      exact ⟨_, rfl, k H' mo e5 n0 h5⟩
/-- lists of numbers in a list -/
def ListsAt (H : Hp) (l : Addr) (qs : List (Addr × List Nat)) : Prop := H l = some (.lst (qs.map fun q => V.ref q.1)) ∧ ∀ q ∈ qs, H q.1 = some (.lst (vI q.2))
theorem ListsAt.ex {H H' : Hp} {l : Addr} {qs : List (Addr × List Nat)} (e : Same H H') (h : ListsAt H l qs) : ListsAt H' l qs := ⟨e _ _ h.1, fun q hq => e _ _ (h.2 q hq)⟩
def choice (ps : List Nat) (r : List (List Nat)) (k : Nat) : Nat := match ps.find? fun j => !k.testBit j && (1 + mostM r (k ||| 2 ^ j) == mostM (ps :: r) k) with
  | some j => j + 1
  | none => 0
def sp_first_choice : Sp := fun vs H Q _ => ∃ (pa ha ba : Addr) (ps : List Nat) (m k : Nat) (r : List (List Nat)), vs = [.ref pa, .int (k : Int), .ref ha, .ref ba] ∧ H pa = some (.lst (vI ps)) ∧ H ha = some (.lst (vI (tab m (ps :: r)))) ∧ H ba = some (.lst (vI (tab m r))) ∧ (∀ j ∈ ps, j < m) ∧ m ≤ 7 ∧ k < 2 ^ m ∧
  Q (.int ((choice ps r k : Nat) : Int)) H
theorem ok_first_choice (T : Txt K mg) : FnOk P w K mg base CX0 1 T.f_first_choice T.fd_first_choice ["partners", "taken", "most_here", "most_behind"] sp_first_choice := by
  refine T.F_first_choice.ok sc_first_choice (fun vs H Q E h => ?_) (fun cdv A outer s H vs Q E hr h => ?_)
  · obtain ⟨pa, ha, ba, ps, m, k, r, rfl, _⟩ := h
    rfl
  · obtain ⟨pa, ha, ba, ps, m, kk, r, rfl, hp, hh, hb, hps, hm, hk, k⟩ := h
    have hpow := pow_le7 hm
    refine ⟨_, (pss_cons (ps_for PassesOwn.never rfl (pi_list (pv 0)) (pg_name (i := 4) sc_first_choice.nd rfl (Or.inl rfl))
      (pss_cons (ps_set (i := 5) sc_first_choice.nd rfl (Or.inl rfl) (pe_op op_shl pe_int (pv 4)))
      (pss_one (ps_if (PW.pt (pw_and (pt_cmpR op_eq (pe_op op_and (pv 1) (pv 5)) pe_int (nomark _)) (pw_and1 (pt_cmpR op_eq (pe_op op_add pe_int (pe_ix ix_list (pv 3) (pe_op op_or (pv 1) (pv 5)) (fun _ _ => rfl))) (pe_ix ix_list (pv 2) (pv 1) (fun _ _ => rfl)) (nomark _)))))
      (pss_one (ps_ret (pe_op op_add (pv 4) pe_int)))
      pss_nil))))
      (pss_one (ps_ret pe_int))), ?_⟩
    refine ⟨_, rfl, pa, rfl, ⟨_, SqL.of hp⟩, for_it (walk_list (K := K) (a := pa) (xs := vI ps))
        (fun j σ H' => ∃ v5 v6 : Option V, σ = [some (.ref pa), some (.int (kk : Int)), some (.ref ha), some (.ref ba), v5, v6] ∧ H' = H ∧ ((ps.take j).find? fun j => !kk.testBit j && (1 + mostM r (kk ||| 2 ^ j) == mostM (ps :: r) kk)) = none)
        ⟨none, none, rfl, rfl, rfl⟩ (fun _ _ _ _ ⟨_, _, _, q, _⟩ => q ▸ SqL.of hp) ?_ ?_⟩
    · rintro j x σ H3 H4 hj ⟨v5, v6, rfl, rfl, hf⟩ ⟨rfl, hx⟩
      obtain ⟨t, ht', rfl⟩ := at_map hx
      have htm := hps t (List.mem_of_getElem? ht')
      refine shl_asg (t := t) (i := 5) (j := 4) rfl (by omega) ?_
      refine ⟨_, rfl, _, rfl, _, _, rfl, rfl, rfl, _, rfl, ?_⟩
      rw [bit_free]
      have fstep : ((ps.take (j + 1)).find? fun j => !kk.testBit j && (1 + mostM r (kk ||| 2 ^ j) == mostM (ps :: r) kk)) = if (!kk.testBit t && (1 + mostM r (kk ||| 2 ^ t) == mostM (ps :: r) kk)) = true then some t else none := by
        rw [take_more ht', List.find?_append, hf, Option.none_or, List.find?_cons]
        cases (!kk.testBit t && (1 + mostM r (kk ||| 2 ^ t) == mostM (ps :: r) kk)) <;> rfl
      refine ifb (fun c => ?_) (fun c => ?_)
      · refine ⟨_, rfl, _, rfl, _, rfl, _, _, rfl, rfl, ba, _, _, _, rfl, rfl, SqL.of hb, (by rw [or_bit]; exact atI_nat (vI_at (tab_at r (or_lt hk htm)))), _, _, rfl, rfl, _, rfl, _, rfl, ha, _, _, _, rfl, rfl, SqL.of hh, atI_nat (vI_at (tab_at (ps :: r) hk)), rfl, _, rfl, ?_⟩
        have ed : decide (V.int ((1 : Int) + ((mostM r (kk ||| 2 ^ t) : Nat) : Int)) = V.int ((mostM (ps :: r) kk : Nat) : Int)) = (1 + mostM r (kk ||| 2 ^ t) == mostM (ps :: r) kk) := by
          by_cases q : 1 + mostM r (kk ||| 2 ^ t) = mostM (ps :: r) kk
          · rw [beq_iff_eq.mpr q]
            exact decide_eq_true (by rw [← q, Int.natCast_add]; rfl)
          · rw [beq_eq_false_iff_ne.mpr q]
            exact decide_eq_false fun z => q (by injection z with z; omega)
        show if decide (V.int ((1 : Int) + ((mostM r (kk ||| 2 ^ t) : Nat) : Int)) = V.int ((mostM (ps :: r) kk : Nat) : Int)) = true then _ else _
        rw [ed]
        refine ifb (fun c2 => ?_) (fun c2 => ?_)
        · refine ⟨_, rfl, _, _, rfl, rfl, ?_⟩
          have e1 : choice ps r kk = t + 1 := by
            unfold choice
            rw [c, c2, show (true && true) = true from rfl, if_pos rfl] at fstep
            have e2 : (ps.find? fun j => !kk.testBit j && (1 + mostM r (kk ||| 2 ^ j) == mostM (ps :: r) kk)) = some t := by
              rw [← List.take_append_drop (j + 1) ps, List.find?_append, List.take_append_drop, fstep]
              rfl
            rw [e2]
          rw [e1] at k
          exact k
        · refine ⟨_, _, rfl, rfl, ?_⟩
          rw [fstep, c2, Bool.and_false, if_neg Bool.false_ne_true]
      · refine ⟨_, _, rfl, rfl, ?_⟩
        rw [fstep, c, Bool.false_and, if_neg Bool.false_ne_true]
    · rintro σ H3 ⟨v5, v6, rfl, rfl, hf⟩
      rw [vI_length, List.take_length] at hf
      have e1 : choice ps r kk = 0 := by
        unfold choice
        rw [hf]
      rw [e1] at k
      exact k
end
end Rn
set_option Elab.async false
set_option maxRecDepth 100000
set_option maxHeartbeats 4000000
set_option linter.unusedVariables false
namespace Rn
open PySem PySem.Spec PyProof.Rows L2
theorem tab_nil (m : Nat) : vI (tab m []) = (List.replicate (2 ^ m) [V.int 0]).flatten := by
  unfold tab
  have e : (List.range (2 ^ m)).map (mostM []) = List.replicate (2 ^ m) 0 := by
    rw [List.eq_replicate_iff]
    refine ⟨by rw [List.length_map, List.length_range], fun b hb => ?_⟩
    obtain ⟨k, _, rfl⟩ := List.mem_map.mp hb
    rfl
  rw [e]
  unfold vI
  rw [List.map_replicate]
  induction 2 ^ m with
  | zero => rfl
  | succ n ih =>
    rw [List.replicate_succ, List.replicate_succ, List.flatten_cons, ← ih]
    rfl
section
variable {P : Program} {w : World} {K : PySem.W.Frag} {mg : Str → Option Value} {base : Heap}
def sp_most_from_each_on : Sp := fun vs H Q _ => ∃ (la : Addr) (qs : List (Addr × List Nat)) (m : Nat), vs = [.ref la, .int (m : Int)] ∧ ListsAt H la qs ∧ (∀ q ∈ qs, ∀ j ∈ q.2, j < m) ∧ m ≤ 7 ∧ qs.length ≤ 1000 ∧
  ∀ H' l rs, Same H H' → H l = none → ListsAt H' l rs → rs.map (·.2) = (List.range (qs.length + 1)).map (fun i => tab m ((qs.map (·.2)).drop i)) → Q (.ref l) H'
theorem ok_most_from_each_on (T : Txt K mg) : FnOk P w K mg base CX0 2 T.f_most_from_each_on T.fd_most_from_each_on ["partner_lists", "target_count"] sp_most_from_each_on := by
  have G_most_with_one_more : FnOk P w K mg base CX0 1 _ _ _ _ := ok_most_with_one_more T
  refine T.F_most_from_each_on.ok sc_most_from_each_on (fun vs H Q E h => ?_) (fun cdv A outer s H vs Q E hr h => ?_)
  · obtain ⟨la, qs, m, rfl, _⟩ := h
    rfl
  · obtain ⟨la, qs, m, rfl, hq, hps, hm, hlen, k⟩ := h
    have hpow := pow_le7 hm
    refine ⟨_, (pss_cons (ps_set (i := 2) sc_most_from_each_on.nd rfl (Or.inl rfl) (pe_lst (pa_cons (pe_op op_rep (pe_lst (pa_cons pe_int pa_nil)) (pe_op op_shl pe_int (pv 1))) pa_nil)))
      (pss_cons (ps_for PassesOwn.never rfl (pi_reversed (by rfl) T.z_reversed (pa_cons (pv 0) pa_nil)) (pg_name (i := 3) sc_most_from_each_on.nd rfl (Or.inl rfl))
      (pss_one (ps_expr (pe_bm PySem.F.plainAttrs_list PySem.F.slot_list_append PySem.F.type_list_append mt_append (pv 2) (pa_cons (pe_call G_most_with_one_more (hr.mono (by decide)) rfl T.g_most_with_one_more T.F_most_with_one_more.kp T.b_most_with_one_more .nil pass0 (pa_cons (pv 3) (pa_cons (pe_ix ix_list (pv 2) (pe_un un_neg pe_int) (fun _ _ => rfl)) pa_nil))) pa_nil)))))
      (pss_one (ps_ret (pe_listRev rfl (by rfl) T.z_list (by rfl) T.z_reversed (pv 2)))))), ?_⟩
    refine ⟨big (by show 1 ≤ 1000000; decide), fun p0 n0 => ?_⟩
    generalize hG0 : upd _ p0 _ = H0
    have e0 := nwE hG0 n0
    have h0 := nwP hG0
    refine ⟨_, rfl, _, _, rfl, rfl, ⟨by omega, by omega, by decide⟩, p0, _, _, rfl, rfl, h0, ?_, ?_, ?_, fun p1 n1 => ?_⟩
    · rw [shl_one]
      exact Int.le_trans (by decide) (Int.natCast_nonneg _)
    · rw [shl_one]
      exact Int.lt_of_le_of_lt (Int.ofNat_le.mpr hpow) (by decide)
    · rw [shl_one, Int.toNat_natCast]
      exact big (by show 1 * 2 ^ m ≤ 1000000; omega)
    generalize hG1 : upd _ p1 _ = H1
    have e1 := nwE hG1 n1
    have h1 := nwP hG1
    rw [shl_one, Int.toNat_natCast, ← tab_nil] at h1
    refine ⟨big (by show 1 ≤ 1000000; decide), fun ta n2 => ?_⟩
    generalize hG2 : upd _ ta _ = H2
    have e2 := nwE hG2 n2
    have h2 := nwP hG2
    have e02 := (e0.trans e1).trans e2
    have nta : H ta = none := (e0.trans e1).free n2
    refine ⟨_, rfl, la, _, rfl, SqL.of (e02 _ _ hq.1), for_it (walk_rev (K := K) (a := la) (xs := qs.map fun q => V.ref q.1))
      (fun i σ H' => ∃ (ts : List (Addr × List Nat)) (v3 : Option V), σ = [some (.ref la), some (.int (m : Int)), some (.ref ta), v3] ∧ Same H H' ∧ ListsAt H' ta ts ∧ ts.map (·.2) = (List.range (i + 1)).map (fun k => tab m ((qs.map (·.2)).drop (qs.length - k))))
      ⟨[(p1, tab m [])], none, rfl, e02, ⟨h2, fun q hq => by rw [List.mem_singleton.mp hq]; exact e2 _ _ h1⟩, ?_⟩ (fun i σ H' _ ⟨_, _, _, e5, _⟩ => SqL.of (e5 _ _ hq.1)) ?_ ?_⟩
    · show [tab m []] = [tab m ((qs.map (·.2)).drop (qs.length - 0))]
      rw [List.drop_eq_nil_of_le (by rw [List.length_map]; omega)]
    · rintro i x σ H' H3 hi ⟨ts, v3, rfl, e5, hts, htm⟩ ⟨rfl, hx⟩
      rw [List.length_map] at hi hx
      obtain ⟨q, hq', rfl⟩ := at_map hx
      have hqm := List.mem_of_getElem? hq'
      have htl : ts.length = i + 1 := by
        have := congrArg List.length htm
        rw [List.length_map, List.length_map, List.length_range] at this
        exact this
      obtain ⟨ts0, tl, rfl⟩ : ∃ ts0 tl, ts = ts0 ++ [tl] := ⟨ts.dropLast, ts.getLast (by intro e; rw [e] at htl; simp at htl), (List.dropLast_concat_getLast _).symm⟩
      have hlast : tl.2 = tab m ((qs.map (·.2)).drop (qs.length - i)) := by
        rw [List.range_succ, List.map_append, List.map_append, List.map_singleton, List.map_singleton] at htm
        have := List.append_inj_right' htm rfl
        exact (List.cons.inj this).1
      refine ⟨_, rfl, .inl ⟨rfl, _, SqL.of hts.1⟩, _, rfl, _, rfl, _, rfl, ta, _, _, .ref tl.1, rfl, rfl, SqL.of hts.1, ?_, ?_⟩
      · rw [List.map_append]
        exact atI_last _ _
      · have htl2 := hts.2 tl (List.mem_append.mpr (.inr (List.mem_singleton.mpr rfl)))
        rw [hlast] at htl2
        refine ⟨q.1, tl.1, q.2, m, (qs.map (·.2)).drop (qs.length - i), rfl, e5 _ _ (hq.2 q hqm), htl2, hps q hqm, hm, fun H4 l4 e6 n4 h4 => ?_⟩
        have hts4 := hts.ex e6
        refine ⟨ta, _, _, rfl, rfl, hts4.1, bigl (by rw [List.length_map, htl]; omega), ?_⟩
        have e56 := e5.trans e6
        refine ⟨ts0 ++ [tl] ++ [(l4, tab m (q.2 :: (qs.map (·.2)).drop (qs.length - i)))], _, rfl, Ex.mut e56 nta, ⟨?_, fun y hy => ?_⟩, ?_⟩
        · rw [upd_same]
          simp only [List.map_append, List.map_cons, List.map_nil]
        · rcases List.mem_append.mp hy with hy | hy
          · have q1 := hts4.2 y hy
            rw [upd_ne ?_]
            · exact q1
            · intro z
              rw [z, hts4.1] at q1
              injection q1 with q1
              injection q1 with q1
              -- the list of tables holds references, no numbers
              have q2 : (ts0 ++ [tl]).map (fun q => V.ref q.1) = vI y.2 := q1
              rw [List.map_append] at q2
              have q3 : V.ref tl.1 ∈ vI y.2 := by
                rw [← q2]
                exact List.mem_append.mpr (.inr (List.mem_singleton.mpr rfl))
              obtain ⟨nn, _, q4⟩ := List.mem_map.mp q3
              cases q4
          · rw [List.mem_singleton.mp hy]
            rw [upd_ne ?_]
            · exact h4
            · intro z
              have z : l4 = ta := z
              rw [z, hts.1] at n4
              cases n4
        · rw [List.map_append, htm, List.range_succ (n := i + 1), List.map_append (l₁ := List.range (i + 1))]
          congr 1
          show [tab m (q.2 :: (qs.map (·.2)).drop (qs.length - i))] = [tab m ((qs.map (·.2)).drop (qs.length - (i + 1)))]
          have hix : qs.length - 1 - i < (qs.map (·.2)).length := by rw [List.length_map]; omega
          have e7 : (qs.map (·.2)).drop (qs.length - (i + 1)) = q.2 :: (qs.map (·.2)).drop (qs.length - i) := by
            rw [show qs.length - (i + 1) = qs.length - 1 - i by omega, List.drop_eq_getElem_cons hix, show qs.length - 1 - i + 1 = qs.length - i by omega]
            congr 1
            rw [List.getElem_map]
            have := (List.getElem?_eq_some_iff.mp hq').2
            rw [this]
          rw [e7]
    · rintro σ H' ⟨ts, v3, rfl, e5, hts, htm⟩
      rw [List.length_map] at htm
      refine ⟨_, rfl, ta, _, rfl, SqL.of hts.1, fun l nl => ?_⟩
      have e6 := Ex.new (o := .lst (ts.map fun q => V.ref q.1).reverse) nl
      refine k _ l ts.reverse (e5.trans e6) (e5.free nl) ⟨?_, fun y hy => e6 _ _ (hts.2 y (List.mem_reverse.mp hy))⟩ ?_
      · rw [upd_same, List.map_reverse]
      · rw [List.map_reverse, htm, ← List.map_reverse]
        apply List.ext_getElem?
        intro j
        rw [List.getElem?_map, List.getElem?_map]
        by_cases hj : j < qs.length + 1
        · rw [List.getElem?_reverse (by rw [List.length_range]; exact hj), List.length_range, List.getElem?_range (by omega), List.getElem?_range hj]
          show some (tab m ((qs.map (·.2)).drop (qs.length - (qs.length + 1 - 1 - j)))) = some _
          rw [show qs.length - (qs.length + 1 - 1 - j) = j by omega]
        · rw [List.getElem?_eq_none (by rw [List.length_reverse, List.length_range]; omega), List.getElem?_eq_none (by rw [List.length_range]; omega)]
          rfl
def sp_first_pairing : Sp := fun vs H Q _ => ∃ (la : Addr) (qs : List (Addr × List Nat)) (m : Nat), vs = [.ref la, .int (m : Int)] ∧ ListsAt H la qs ∧ (∀ q ∈ qs, ∀ j ∈ q.2, j < m) ∧ m ≤ 7 ∧ qs.length ≤ 1000 ∧
  ∀ H' l, Same H H' → H l = none → H' l = some (.lst (vI (pairsM (qs.map (·.2)) 0))) → Q (.ref l) H'
theorem choice_lt {ps : List Nat} {r : List (List Nat)} {k m : Nat} (h : ∀ j ∈ ps, j < m) : choice ps r k ≤ m := by
  unfold choice
  split
  · rename_i j hj
    exact h j (List.mem_of_find?_eq_some hj)
  · exact Nat.zero_le _
theorem pairs_step (ps : List Nat) (r : List (List Nat)) (k : Nat) : pairsM (ps :: r) k = choice ps r k :: pairsM r (if 0 < choice ps r k then k ||| 2 ^ (choice ps r k - 1) else k) := by
  unfold choice
  show (match ps.find? fun j => !k.testBit j && (1 + mostM r (k ||| 2 ^ j) == mostM (ps :: r) k) with
    | some j => (j + 1) :: pairsM r (k ||| 2 ^ j)
    | none => 0 :: pairsM r k) = _
  cases ps.find? fun j => !k.testBit j && (1 + mostM r (k ||| 2 ^ j) == mostM (ps :: r) k) with
  | some j =>
    show _ = (j + 1) :: pairsM r (if 0 < j + 1 then k ||| 2 ^ (j + 1 - 1) else k)
    rw [if_pos (by omega), Nat.add_sub_cancel]
  | none => rfl
theorem ok_first_pairing (T : Txt K mg) : FnOk P w K mg base CX0 3 T.f_first_pairing T.fd_first_pairing ["partner_lists", "target_count"] sp_first_pairing := by
  have G_most_from_each_on : FnOk P w K mg base CX0 2 _ _ _ _ := ok_most_from_each_on T
  have G_first_choice : FnOk P w K mg base CX0 1 _ _ _ _ := ok_first_choice T
  refine T.F_first_pairing.ok sc_first_pairing (fun vs H Q E h => ?_) (fun cdv A outer s H vs Q E hr h => ?_)
  · obtain ⟨la, qs, m, rfl, _⟩ := h
    rfl
  · obtain ⟨la, qs, m, rfl, hq, hps, hm, hlen, k⟩ := h
    have hpow := pow_le7 hm
    refine ⟨_, (pss_cons (ps_set (i := 2) sc_first_pairing.nd rfl (Or.inl rfl) (pe_call G_most_from_each_on (hr.mono (by decide)) rfl T.g_most_from_each_on T.F_most_from_each_on.kp T.b_most_from_each_on .nil pass0 (pa_cons (pv 0) (pa_cons (pv 1) pa_nil))))
      (pss_cons (ps_set (i := 3) sc_first_pairing.nd rfl (Or.inl rfl) pe_int)
      (pss_cons (ps_set (i := 4) sc_first_pairing.nd rfl (Or.inl rfl) (pe_lst pa_nil))
      (pss_cons (ps_for PassesOwn.never rfl (pi_enum (by rfl) T.z_enumerate (pa_cons (pv 0) pa_nil)) (pg_tup rfl (pgs_cons (pg_name (i := 5) sc_first_pairing.nd rfl (Or.inl rfl)) (pgs_cons (pg_name (i := 6) sc_first_pairing.nd rfl (Or.inl rfl)) pgs_nil)))
      (pss_cons (ps_set (i := 7) sc_first_pairing.nd rfl (Or.inl rfl) (pe_call G_first_choice (hr.mono (by decide)) rfl T.g_first_choice T.F_first_choice.kp T.b_first_choice .nil pass0 (pa_cons (pv 6) (pa_cons (pv 3) (pa_cons (pe_ix ix_list (pv 2) (pv 5) (fun _ _ => rfl)) (pa_cons (pe_ix ix_list (pv 2) (pe_op op_add (pv 5) pe_int) (fun _ _ => rfl)) pa_nil))))))
      (pss_cons (ps_expr (pe_bm PySem.F.plainAttrs_list PySem.F.slot_list_append PySem.F.type_list_append mt_append (pv 4) (pa_cons (pv 7) pa_nil)))
      (pss_one (ps_if (pt_cmpR op_gt (pv 7) pe_int (nomark _))
      (pss_one (ps_set (i := 3) sc_first_pairing.nd rfl (Or.inl rfl) (pe_op op_or (pv 3) (pe_op op_shl pe_int (pe_op op_sub (pv 7) pe_int)))))
      pss_nil)))))
      (pss_one (ps_ret (pv 4))))))), ?_⟩
    refine ⟨_, rfl, _, rfl, la, qs, m, rfl, hq, hps, hm, hlen, fun H0 tb rs e0 n0 hrs hrm => ?_⟩
    refine ⟨big (by show 0 ≤ 1000000; decide), fun ch n1 => ?_⟩
    generalize hG1 : upd _ ch _ = H1
    have e1 := nwE hG1 n1
    have h1 := nwP hG1
    have e01 := e0.trans e1
    have nch : H ch = none := e0.free n1
    have hrs1 := hrs.ex e1
    have hrl : rs.length = qs.length + 1 := by
      have := congrArg List.length hrm
      rw [List.length_map, List.length_map, List.length_range] at this
      exact this
    have hrat : ∀ i, i < qs.length + 1 → ∃ r, rs[i]? = some r ∧ r.2 = tab m ((qs.map (·.2)).drop i) := by
      intro i hi
      have h7 : i < rs.length := by omega
      refine ⟨rs[i], List.getElem?_eq_getElem h7, ?_⟩
      have h8 : (rs.map (·.2))[i]? = some (tab m ((qs.map (·.2)).drop i)) := by
        rw [hrm, List.getElem?_map, List.getElem?_range hi]
        rfl
      rw [List.getElem?_map, List.getElem?_eq_getElem h7] at h8
      exact Option.some.inj h8
    refine ⟨_, rfl, la, _, rfl, SqL.of (e01 _ _ hq.1), for_it (walk_enum (K := K) (a := la) (xs := qs.map fun q => V.ref q.1))
      (fun i σ H' => ∃ (kk : Nat) (cs : List Nat) (v5 v6 v7 : Option V), σ = [some (.ref la), some (.int (m : Int)), some (.ref tb), some (.int (kk : Int)), some (.ref ch), v5, v6, v7] ∧ ExB ch H1 H' ∧ H' ch = some (.lst (vI cs)) ∧ cs.length = i ∧ kk < 2 ^ m ∧ pairsM (qs.map (·.2)) 0 = cs ++ pairsM ((qs.map (·.2)).drop i) kk)
      ⟨0, [], none, none, none, rfl, ExB.of (Same.refl _), h1, rfl, Nat.two_pow_pos m, rfl⟩ (fun i σ H' _ ⟨_, _, _, _, _, _, e5, _⟩ => SqL.of (e5 _ _ (ne_of_none (e0 _ _ hq.1) n1) (e01 _ _ hq.1))) ?_ ?_⟩
    · rintro i x σ H' H3 hi ⟨kk, cs, v5, v6, v7, rfl, e5, h5, hcl, hkk, hpm⟩ ⟨TT, x1, x2, rfl, nT, rfl, hx1, hx2⟩
      cases hx1
      obtain ⟨q, hq', rfl⟩ := at_map hx2
      have hi' : i < qs.length := (List.getElem?_eq_some_iff.mp hq').1
      have hqm := List.mem_of_getElem? hq'
      have e6 := Ex.new (o := .tup [V.int ((i : Nat) : Int), V.ref q.1]) nT
      generalize hG3 : upd H' TT _ = H3 at e6
      have hT := nwP hG3
      have nz : ∀ b o, H0 b = some o → H3 b = some o := fun b o hh => e6 _ _ (e5 b o (ne_of_none hh n1) (e1 _ _ hh))
      obtain ⟨r1, hr1, hr1t⟩ := hrat i (by omega)
      obtain ⟨r2, hr2, hr2t⟩ := hrat (i + 1) (by omega)
      have hdr : (qs.map (·.2)).drop i = q.2 :: (qs.map (·.2)).drop (i + 1) := by
        rw [List.drop_eq_getElem_cons (by rw [List.length_map]; exact hi')]
        congr 1
        rw [List.getElem_map, (List.getElem?_eq_some_iff.mp hq').2]
      have hr1' := nz _ _ (hrs.2 r1 (List.mem_of_getElem? hr1))
      have hr2' := nz _ _ (hrs.2 r2 (List.mem_of_getElem? hr2))
      rw [hr1t, hdr] at hr1'
      rw [hr2t] at hr2'
      have htb := nz _ _ hrs.1
      have at1 : (rs.map fun q => V.ref q.1)[i]? = some (V.ref r1.1) := by rw [List.getElem?_map, hr1]; rfl
      have at2 : (rs.map fun q => V.ref q.1)[i + 1]? = some (V.ref r2.1) := by rw [List.getElem?_map, hr2]; rfl
      refine ⟨_, _, rfl, SqT.of hT, rfl, _, _, rfl, _, _, rfl, rfl, ?_⟩
      refine ⟨_, rfl, _, rfl, _, rfl, _, rfl, tb, _, _, _, rfl, rfl, SqL.of htb, atI_nat at1, _, rfl, _, rfl, _, _, rfl, rfl, tb, _, _, _, rfl, rfl, SqL.of htb, atI_nat (j := i + 1) at2, ?_⟩
      have hch := choice_lt (r := (qs.map (·.2)).drop (i + 1)) (k := kk) (hps q hqm)
      have hstep := pairs_step q.2 ((qs.map (·.2)).drop (i + 1)) kk
      refine ⟨q.1, r1.1, r2.1, q.2, m, kk, (qs.map (·.2)).drop (i + 1), rfl, nz _ _ (e0 _ _ (hq.2 q hqm)), hr1', hr2', hps q hqm, hm, hkk, ?_⟩
      generalize hcv : choice q.2 ((qs.map (·.2)).drop (i + 1)) kk = c at hch hstep
      have h53 := e6 _ _ h5
      refine ⟨_, rfl, .inl ⟨rfl, _, SqL.of h53⟩, _, rfl, ch, _, _, rfl, rfl, h53, bigl (by rw [vI_length]; omega), ?_⟩
      generalize hG4 : upd H3 ch _ = H4
      have h4 : H4 ch = some (.lst (vI (cs ++ [c]))) := by
        rw [← hG4, upd_same, vI_append]
        rfl
      have e14 : ExB ch H1 H4 := by
        rw [← hG4]
        exact (e5.trans (ExB.of e6)).trans ExB.upd
      have hpm2 : pairsM (qs.map (·.2)) 0 = (cs ++ [c]) ++ pairsM ((qs.map (·.2)).drop (i + 1)) (if 0 < c then kk ||| 2 ^ (c - 1) else kk) := by
        rw [hpm, hdr, hstep, List.append_assoc]
        rfl
      refine ⟨_, rfl, _, _, rfl, rfl, _, rfl, ifb (fun c1 => ?_) (fun c1 => ?_)⟩
      · have hc0 : 0 < c := by have := of_decide_eq_true c1; omega
        rw [if_pos hc0] at hpm2
        refine ⟨_, rfl, _, rfl, _, _, rfl, rfl, _, _, rfl, rfl, ⟨by omega, by omega, by decide⟩, _, _, rfl, rfl, ?_⟩
        refine ⟨kk ||| 2 ^ (c - 1), cs ++ [c], some (.int ((i : Nat) : Int)), some (.ref q.1), some (.int (c : Int)), ?_, e14, h4, by rw [List.length_append, List.length_singleton, hcl], or_lt hkk (by omega), hpm2⟩
        have eo : Builtin.bitOr (kk : Int) ((1 : Int) * 2 ^ ((c : Int) - 1).toNat) = ((kk ||| 2 ^ (c - 1) : Nat) : Int) := by
          rw [show ((c : Int) - 1) = ((c - 1 : Nat) : Int) by omega, shl_one, or_bit]
        rw [← eo]
        rfl
      · have hc0 : ¬ 0 < c := by have := of_decide_eq_false c1; omega
        rw [if_neg hc0] at hpm2
        exact ⟨kk, cs ++ [c], some (.int ((i : Nat) : Int)), some (.ref q.1), some (.int (c : Int)), rfl, e14, h4, by rw [List.length_append, List.length_singleton, hcl], hkk, hpm2⟩
    · rintro σ H' ⟨kk, cs, v5, v6, v7, rfl, e5, h5, hcl, hkk, hpm⟩
      rw [List.length_map] at hcl hpm
      rw [List.drop_eq_nil_of_le (by rw [List.length_map]; exact Nat.le_refl _)] at hpm
      have hpm' : pairsM (qs.map (·.2)) 0 = cs := by
        rw [hpm]
        show cs ++ [] = cs
        rw [List.append_nil]
      refine ⟨_, rfl, k H' ch (fun b o hh => e5 b o (ne_of_none hh nch) (e01 _ _ hh)) nch ?_⟩
      rw [hpm']
      exact h5
end
end Rn
set_option Elab.async false
set_option maxRecDepth 100000
set_option maxHeartbeats 4000000
set_option linter.unusedVariables false
namespace Rn
open PySem PySem.Spec PyProof.Rows L2
/-! ### a comprehension over enumerate(..) -/
section
variable {K : PySem.W.Frag} {a : Addr} {g : TG} {tt : TT} {te : TE} {vs : List Nat} {σ : L2.St} {H1 : Hp} {D : Addr} {Qd : Hp → Prop}
theorem zip_take {α : Type} {l : List α} {i : Nat} {x : α} (h : l[i]? = some x) : (l.take (i + 1)).zipIdx = (l.take i).zipIdx ++ [(x, i)] := by
  have hl : i < l.length := (List.getElem?_eq_some_iff.mp h).1
  rw [take_more h, List.zipIdx_append]
  congr 1
  rw [List.length_take, Nat.min_eq_left (Nat.le_of_lt hl)]
  show [(x, 0 + i)] = [(x, i)]
  rw [Nat.zero_add]
theorem lc_enum {α : Type} (zs : List α) (enc : α → V) (keep : α × Nat → Bool) (R : α × Nat → V → Hp → Prop) (hD : H1 D = none) (hz : zs.length ≤ 1000000) (hl : SqL K H1 a (zs.map enc))
    (mono : ∀ z y H' H'', ExB D H' H'' → R z y H' → R z y H'')
    (turn : ∀ z i, zs[i]? = some z → ∀ (T : Addr) (H' : Hp) (acc : List V), Same H1 H' → H' D = some (.lst acc) → H' T = some (.tup [.int ((i : Nat) : Int), enc z]) → ∀ (N1 : V → Hp → Prop) (N0 : Hp → Prop),
      (keep (z, i) = true → ∀ y H'', Same H' H'' → R (z, i) y H'' → N1 y H'') → (keep (z, i) = false → ∀ H'', Same H' H'' → N0 H'') →
      g (.ref T) (wipe σ vs) H' fun σ2 H2 => wipe σ2 vs = wipe σ vs ∧ tt σ2 H2 fun b H3 => if b = true then te σ2 H3 N1 else N0 H3)
    (hd : ∀ H2 ys, Same H1 H2 → H2 D = some (.lst ys) → Paired (fun z y => R z y H2) (zs.zipIdx.filter keep) ys → Qd H2) :
    ∃ W : Nat → Nat → Hp → Prop, (∃ m, W 0 m (upd H1 D (.lst []))) ∧ ∀ i m H, W i m H →
      ((Ite K a).stop i H ∧ Qd H) ∨ ((Ite K a).go i H ∧ ∃ Nx : Hp → Prop, (∀ H', Nx H' → ∃ m', m' < m ∧ W (i + 1) m' H') ∧ ∀ x H', (Ite K a).yld i H x H' → g x (wipe σ vs) H' fun σ2 H2 => wipe σ2 vs = wipe σ vs ∧ tt σ2 H2 fun b H3 =>
        if b = true then te σ2 H3 fun y H4 => ∃ acc, H4 D = some (.lst acc) ∧ acc.length < sizeLine ∧ Nx (upd H4 D (.lst (acc ++ [y]))) else Nx H3) := by
  refine lc_it (walk_enum (K := K) (a := a) (xs := zs.map enc)) (fun i H' => Same H1 H' ∧ ∃ ys, H' D = some (.lst ys) ∧ ys.length ≤ i ∧ Paired (fun z y => R z y H') ((zs.take i).zipIdx.filter keep) ys) ?_ ?_ ?_ ?_
  · exact ⟨Ex.new hD, [], upd_same, Nat.le_refl _, .nil⟩
  · exact fun i H' _ ⟨e, _⟩ => e.seq hl
  · rintro i x H' H2 hi ⟨e, ys, hy, hle, hp⟩ ⟨TT, x1, x2, rfl, nT, rfl, hx1, hx2⟩
    cases hx1
    obtain ⟨z, hz', rfl⟩ := at_map hx2
    have hi : i < zs.length := (List.getElem?_eq_some_iff.mp hz').1
    have e0 := Ex.new (o := .tup [V.int ((i : Nat) : Int), enc z]) nT
    have ef : (zs.take (i + 1)).zipIdx.filter keep = (zs.take i).zipIdx.filter keep ++ (if keep (z, i) = true then [(z, i)] else []) := by
      rw [zip_take hz', List.filter_append]
      congr 1
      rw [List.filter_cons]
      split <;> rfl
    refine turn z i hz' TT _ ys (e.trans e0) (e0 _ _ hy) upd_same _ _ (fun hk y H'' e2 hr => ?_) (fun hk H'' e2 => ?_)
    · refine ⟨ys, e2 _ _ (e0 _ _ hy), Nat.lt_of_le_of_lt (Nat.le_trans hle (Nat.le_of_lt (Nat.lt_of_lt_of_le hi hz))) (by decide), Ex.mut ((e.trans e0).trans e2) hD, ys ++ [y], upd_same, ?_, ?_⟩
      · rw [List.length_append, List.length_singleton]
        omega
      · rw [ef, if_pos hk]
        refine paired_snoc (Paired.mapP hp fun z y r => ?_) ?_
        · exact mono z y _ _ ((ExB.of (e0.trans e2)).trans ExB.upd) r
        · exact mono _ y _ _ ExB.upd hr
    · refine ⟨(e.trans e0).trans e2, ys, e2 _ _ (e0 _ _ hy), by omega, ?_⟩
      rw [ef, if_neg (by rw [hk]; decide), List.append_nil]
      exact Paired.mapP hp fun z y r => mono z y _ _ (ExB.of (e0.trans e2)) r
  · rintro H' ⟨e, ys, hy, hle, hp⟩
    rw [List.length_map, List.take_length] at hp
    exact hd H' ys e hy hp
end
section
variable {P : Program} {w : World} {K : PySem.W.Frag} {mg : Str → Option Value} {base : Heap}
def sp_serves_one_of (T : Txt K mg) : Sp := fun vs H Q _ => ∃ (l b : Addr) (us : Us) (f : List Nat), vs = [.ref l, .ref b] ∧ ThingsAt T H l us ∧ us.length ≤ 1000 ∧ H b = some (.tup (vI f)) ∧
  ∀ H', Same H H' → Q (.bl (us.any fun u => served u.2 f)) H'
theorem ok_serves_one_of (T : Txt K mg) : FnOk P w K mg base CX0 2 T.f_serves_one_of T.fd_serves_one_of ["things", "form"] (sp_serves_one_of T) := by
  have G_Thing_is_served_by : FnOk P w K mg base CX0 1 _ _ _ _ := ok_Thing_is_served_by T
  refine T.F_serves_one_of.ok sc_serves_one_of (fun vs H Q E h => ?_) (fun cdv A outer s H vs Q E hr h => ?_)
  · obtain ⟨l, b, us, f, rfl, _⟩ := h
    rfl
  · obtain ⟨l, b, us, f, rfl, hl, hlen, hb, k⟩ := h
    refine ⟨_, (pss_one (ps_ret (pe_callB (cr_any rfl) (by rfl) T.z_any boot_any1 (pa_cons (pe_lc (own := [("thing", 2)]) (g := (gName 2)) (by rfl) sc_serves_one_of.nd (pi_list (pv 0)) (blkOk_by (own := [("thing", 2)]) (N := ["things", "form", "thing"]) (sc := defScope s_serves_one_of) (by decide +kernel)) (fun _ _ _ _ _ => (pg_name (i := 2) sc_serves_one_of.nd rfl (Or.inl rfl))) (fun _ _ _ _ _ => pts_nil) (fun _ _ _ _ _ => (pe_meth (pv 2) T.cl_Thing T.m_Thing_is_served_by G_Thing_is_served_by (hr.mono (by decide)) T.b_Thing_is_served_by .nil pass0 (pa_cons (pv 1) pa_nil)))) pa_nil)))), ?_⟩
    refine ⟨_, rfl, l, rfl, ⟨_, SqL.of hl.1⟩, fun D hD => lc_data (K := K) (a := l) us (fun u => V.ref u.1) (fun _ => true) (fun u y _ => y = V.bl (served u.2 f)) hD (by omega) (SqL.of hl.1) (fun _ _ _ _ _ h => h) (fun u hu H' acc e hy N1 N0 h1 h0 => ?_) (fun H2 ys e hy hp => ?_)⟩
    · have th := (hl.2 u hu).ex e
      obtain ⟨_, dx, ls, ds, zs, g1, _⟩ := id th
      exact ⟨rfl, _, rfl, u.1, dx, _, rfl, g1, no_Thing_is_served_by _ _ _, _, rfl, u.1, b, u.2, f, rfl, th, e _ _ hb, h1 rfl _ _ (Same.refl _) rfl⟩
    · rw [filter_true] at hp
      have ey := paired_eq (f := fun (u : Addr × Ut04.Thing) => V.bl (served u.2 f)) hp
      refine ⟨D, us.map fun u => served u.2 f, rfl, ?_, ?_⟩
      · rw [List.map_map]
        rw [ey] at hy
        exact SqL.of hy
      · rw [any_id]
        exact k _ e
def sp_forbidden_for_one_of (T : Txt K mg) : Sp := fun vs H Q _ => ∃ (l b : Addr) (us : Us) (f : List Nat), vs = [.ref l, .ref b] ∧ ThingsAt T H l us ∧ us.length ≤ 1000 ∧ H b = some (.tup (vI f)) ∧
  ∀ H', Same H H' → Q (.bl (us.any fun u => forb u.2 f)) H'
theorem ok_forbidden_for_one_of (T : Txt K mg) : FnOk P w K mg base CX0 2 T.f_forbidden_for_one_of T.fd_forbidden_for_one_of ["things", "form"] (sp_forbidden_for_one_of T) := by
  have G_Thing_forbids : FnOk P w K mg base CX0 1 _ _ _ _ := ok_Thing_forbids T
  refine T.F_forbidden_for_one_of.ok sc_forbidden_for_one_of (fun vs H Q E h => ?_) (fun cdv A outer s H vs Q E hr h => ?_)
  · obtain ⟨l, b, us, f, rfl, _⟩ := h
    rfl
  · obtain ⟨l, b, us, f, rfl, hl, hlen, hb, k⟩ := h
    refine ⟨_, (pss_one (ps_ret (pe_callB (cr_any rfl) (by rfl) T.z_any boot_any1 (pa_cons (pe_lc (own := [("thing", 2)]) (g := (gName 2)) (by rfl) sc_forbidden_for_one_of.nd (pi_list (pv 0)) (blkOk_by (own := [("thing", 2)]) (N := ["things", "form", "thing"]) (sc := defScope s_forbidden_for_one_of) (by decide +kernel)) (fun _ _ _ _ _ => (pg_name (i := 2) sc_forbidden_for_one_of.nd rfl (Or.inl rfl))) (fun _ _ _ _ _ => pts_nil) (fun _ _ _ _ _ => (pe_meth (pv 2) T.cl_Thing T.m_Thing_forbids G_Thing_forbids (hr.mono (by decide)) T.b_Thing_forbids .nil pass0 (pa_cons (pv 1) pa_nil)))) pa_nil)))), ?_⟩
    refine ⟨_, rfl, l, rfl, ⟨_, SqL.of hl.1⟩, fun D hD => lc_data (K := K) (a := l) us (fun u => V.ref u.1) (fun _ => true) (fun u y _ => y = V.bl (forb u.2 f)) hD (by omega) (SqL.of hl.1) (fun _ _ _ _ _ h => h) (fun u hu H' acc e hy N1 N0 h1 h0 => ?_) (fun H2 ys e hy hp => ?_)⟩
    · have th := (hl.2 u hu).ex e
      obtain ⟨_, dx, ls, ds, zs, g1, _⟩ := id th
      exact ⟨rfl, _, rfl, u.1, dx, _, rfl, g1, no_Thing_forbids _ _ _, _, rfl, u.1, b, u.2, f, rfl, th, e _ _ hb, h1 rfl _ _ (Same.refl _) rfl⟩
    · rw [filter_true] at hp
      have ey := paired_eq (f := fun (u : Addr × Ut04.Thing) => V.bl (forb u.2 f)) hp
      refine ⟨D, us.map fun u => forb u.2 f, rfl, ?_, ?_⟩
      · rw [List.map_map]
        rw [ey] at hy
        exact SqL.of hy
      · rw [any_id]
        exact k _ e
def parts (us : Us) (wt : List Nat) (ms : Ms) : List Nat := (ms.zipIdx.filter fun y => us.any fun u => served u.2 (Ut04.slice wt y.1.2)).map (·.2)
def sp_partners_of (T : Txt K mg) : Sp := fun vs H Q _ => ∃ (l t : Addr) (us : Us) (wt : List Nat) (ms : Ms), vs = [.ref l, .ref t] ∧ ThingsAt T H l us ∧ us.length ≤ 1000 ∧ MarksAt T H t wt ms ∧ ms.length ≤ 1000 ∧
  ∀ H' p, Same H H' → H p = none → H' p = some (.lst (vI (parts us wt ms))) → Q (.ref p) H'
theorem ok_partners_of (T : Txt K mg) : FnOk P w K mg base CX0 3 T.f_partners_of T.fd_partners_of ["things", "target_marks"] (sp_partners_of T) := by
  have G_serves_one_of : FnOk P w K mg base CX0 2 _ _ _ _ := ok_serves_one_of T
  refine T.F_partners_of.ok sc_partners_of (fun vs H Q E h => ?_) (fun cdv A outer s H vs Q E hr h => ?_)
  · obtain ⟨l, t, us, wt, ms, rfl, _⟩ := h
    rfl
  · obtain ⟨l, t, us, wt, ms, rfl, hl, hlen, hm, hml, k⟩ := h
    refine ⟨_, (pss_one (ps_ret (pe_lc (own := [("place", 2), ("mark", 3)]) (g := (gTup K 2 (gCons (gName 2) (gCons (gName 3) gNil)))) (by rfl) sc_partners_of.nd (pi_enum (by rfl) T.z_enumerate (pa_cons (pv 1) pa_nil)) (blkOk_by (own := [("place", 2), ("mark", 3)]) (N := ["things", "target_marks", "place", "mark"]) (sc := defScope s_partners_of) (by decide +kernel)) (fun _ _ _ _ _ => (pg_tup rfl (pgs_cons (pg_name (i := 2) sc_partners_of.nd rfl (Or.inl rfl)) (pgs_cons (pg_name (i := 3) sc_partners_of.nd rfl (Or.inl rfl)) pgs_nil)))) (fun _ _ _ _ _ => (pts_one (pt_val (pe_call G_serves_one_of (hr.mono (by decide)) rfl T.g_serves_one_of T.F_serves_one_of.kp T.b_serves_one_of .nil pass0 (pa_cons (pv 0) (pa_cons (pe_fldK (K := K) rfl (pv 3) rfl) pa_nil)))))) (fun _ _ _ _ _ => (pv 2))))), ?_⟩
    refine ⟨_, rfl, t, _, rfl, SqL.of hm.1, fun D hD => lc_enum (K := K) (a := t) ms (fun m => V.ref m.1) (fun y => us.any fun u => served u.2 (Ut04.slice wt y.1.2)) (fun y v _ => v = V.int ((y.2 : Nat) : Int)) hD (by omega) (SqL.of hm.1) (fun _ _ _ _ _ h => h) (fun m i hmi TT H' acc e hy hT N1 N0 h1 h0 => ?_) (fun H2 ys e hy hp => ?_)⟩
    · obtain ⟨dm, fm, g1, g2⟩ := (hm.2 m (List.mem_of_getElem? hmi)).ex e
      refine ⟨_, _, rfl, SqT.of hT, rfl, _, _, rfl, _, _, rfl, rfl, rfl, _, rfl, _, rfl, m.1, _, dm, _, _, rfl, g1, T.cl_Mark, T.n_Mark_form, lk_Mark_form _ _ _, l, fm, us, _, rfl, hl.ex e, hlen, g2, fun H'' e2 => ⟨_, rfl, ifb (fun c => ⟨_, rfl, h1 c _ _ e2 rfl⟩) (fun c => h0 c _ e2)⟩⟩
    · refine k H2 D e hD ?_
      rw [hy, paired_eq (f := fun (y : (Addr × Nat × Nat) × Nat) => V.int ((y.2 : Nat) : Int)) hp]
      unfold parts vI
      rw [List.map_map]
      rfl
def isWrong (us : Us) (f : List Nat) : Bool := (us.any fun u => forb u.2 f) && !(us.any fun u => served u.2 f)
def sp_is_wrong (T : Txt K mg) : Sp := fun vs H Q _ => ∃ (l b : Addr) (us : Us) (f : List Nat), vs = [.ref l, .ref b] ∧ ThingsAt T H l us ∧ us.length ≤ 1000 ∧ H b = some (.tup (vI f)) ∧
  ∀ H', Same H H' → Q (.bl (isWrong us f)) H'
theorem ok_is_wrong (T : Txt K mg) : FnOk P w K mg base CX0 3 T.f_is_wrong T.fd_is_wrong ["things", "form"] (sp_is_wrong T) := by
  have G_serves_one_of : FnOk P w K mg base CX0 2 _ _ _ _ := ok_serves_one_of T
  have G_forbidden_for_one_of : FnOk P w K mg base CX0 2 _ _ _ _ := ok_forbidden_for_one_of T
  refine T.F_is_wrong.ok sc_is_wrong (fun vs H Q E h => ?_) (fun cdv A outer s H vs Q E hr h => ?_)
  · obtain ⟨l, b, us, f, rfl, _⟩ := h
    rfl
  · obtain ⟨l, b, us, f, rfl, hl, hlen, hb, k⟩ := h
    refine ⟨_, (pss_one (ps_ret (pe_and (pe_call G_forbidden_for_one_of (hr.mono (by decide)) rfl T.g_forbidden_for_one_of T.F_forbidden_for_one_of.kp T.b_forbidden_for_one_of .nil pass0 (pa_cons (pv 0) (pa_cons (pv 1) pa_nil))) (pe_one (pe_not (pe_call G_serves_one_of (hr.mono (by decide)) rfl T.g_serves_one_of T.F_serves_one_of.kp T.b_serves_one_of .nil pass0 (pa_cons (pv 0) (pa_cons (pv 1) pa_nil)))))))), ?_⟩
    unfold isWrong at k
    refine ⟨_, rfl, _, rfl, l, b, us, f, rfl, hl, hlen, hb, fun H1 e1 => ⟨_, rfl, ifb (fun c => ⟨_, rfl, _, rfl, l, b, us, f, rfl, hl.ex e1, hlen, e1 _ _ hb, fun H2 e2 => ⟨_, rfl, ?_⟩⟩) (fun c => ?_)⟩⟩
    · rw [c, Bool.true_and] at k
      exact k _ (e1.trans e2)
    · rw [c, Bool.false_and] at k
      exact k _ e1
/-- lists of things in a list -/
def MeantAt (T : Txt K mg) (H : Hp) (l : Addr) (vs : List (Addr × Us)) : Prop := H l = some (.lst (vs.map fun v => V.ref v.1)) ∧ ∀ v ∈ vs, ThingsAt T H v.1 v.2
theorem MeantAt.ex {T : Txt K mg} {H H' : Hp} {l : Addr} {vs : List (Addr × Us)} (e : Same H H') (h : MeantAt T H l vs) : MeantAt T H' l vs := ⟨e _ _ h.1, fun v hv => (h.2 v hv).ex e⟩
def allMeant (vs : List (Addr × Us)) : Us := vs.flatMap (·.2)
def sp_wrong_marks (T : Txt K mg) : Sp := fun as H Q _ => ∃ (l t : Addr) (vs : List (Addr × Us)) (wt : List Nat) (ms : Ms), as = [.ref l, .ref t] ∧ MeantAt T H l vs ∧ (∀ v ∈ vs, v.2.length ≤ 8) ∧ vs.length ≤ 100 ∧ MarksAt T H t wt ms ∧ ms.length ≤ 1000 ∧
  ∀ H' p, Same H H' → H p = none → MarksAt T H' p wt (ms.filter fun m => isWrong (allMeant vs) (Ut04.slice wt m.2)) → Q (.ref p) H'
theorem ok_wrong_marks (T : Txt K mg) : FnOk P w K mg base CX0 4 T.f_wrong_marks T.fd_wrong_marks ["meant_lists", "target_marks"] (sp_wrong_marks T) := by
  have G_is_wrong : FnOk P w K mg base CX0 3 _ _ _ _ := ok_is_wrong T
  refine T.F_wrong_marks.ok sc_wrong_marks (fun vs H Q E h => ?_) (fun cdv A outer s H as Q E hr h => ?_)
  · obtain ⟨l, t, vs, wt, ms, rfl, _⟩ := h
    rfl
  · obtain ⟨l, t, vs, wt, ms, rfl, hv, hv8, hvl, hm, hml, k⟩ := h
    refine ⟨_, (pss_cons (ps_set (i := 2) sc_wrong_marks.nd rfl (Or.inr rfl) (pe_lst pa_nil))
      (pss_cons (ps_for PassesOwn.never rfl (pi_list (pv 0)) (pg_name (i := 3) sc_wrong_marks.nd rfl (Or.inl rfl))
      (pss_one (ps_set (i := 2) sc_wrong_marks.nd rfl (Or.inr rfl) (pe_op op_cat (pv 2) (pv 3)))))
      (pss_one (ps_ret (pe_lc (own := [("mark", 4)]) (g := (gName 4)) (by rfl) sc_wrong_marks.nd (pi_list (pv 1)) (blkOk_by (own := [("mark", 4)]) (N := ["meant_lists", "target_marks", "meant", "things", "mark"]) (sc := defScope s_wrong_marks) (by decide +kernel)) (fun _ _ _ _ _ => (pg_name (i := 4) sc_wrong_marks.nd rfl (Or.inl rfl))) (fun _ _ _ _ _ => (pts_one (pt_val (pe_call G_is_wrong (hr.mono (by decide)) rfl T.g_is_wrong T.F_is_wrong.kp T.b_is_wrong .nil pass0 (pa_cons (pv 2) (pa_cons (pe_fldK (K := K) rfl (pv 4) rfl) pa_nil)))))) (fun _ _ _ _ _ => (pv 4))))))), ?_⟩
    refine ⟨big (by show 0 ≤ 1000000; decide), fun p0 n0 => ?_⟩
    generalize hG0 : upd _ p0 _ = H0
    have e0 := nwE hG0 n0
    have h0 := nwP hG0
    refine ⟨_, rfl, l, rfl, ⟨_, SqL.of (e0 _ _ hv.1)⟩, for_it (walk_list (K := K) (a := l) (xs := vs.map fun v => V.ref v.1))
      (fun i σ H' => ∃ (p : Addr) (v3 v4 : Option V), σ = [some (.ref l), some (.ref t), some (.ref p), v3, v4] ∧ Same H H' ∧ H' p = some (.lst ((allMeant (vs.take i)).map fun u => V.ref u.1)) ∧ (allMeant (vs.take i)).length ≤ 8 * i)
      ⟨p0, none, none, rfl, e0, h0, Nat.zero_le _⟩ (fun i σ H' _ ⟨_, _, _, _, e5, _⟩ => SqL.of (e5 _ _ hv.1)) ?_ ?_⟩
    · rintro i x σ H' H3 hi ⟨p, v3, v4, rfl, e5, h5, n5⟩ ⟨rfl, hx⟩
      obtain ⟨v, hv', rfl⟩ := at_map hx
      have hvm := List.mem_of_getElem? hv'
      have hi' : i < vs.length := (List.getElem?_eq_some_iff.mp hv').1
      have h8 := hv8 v hvm
      have hvt := (hv.2 v hvm).ex e5
      refine ⟨_, rfl, _, rfl, cat_step h5 hvt.1 (by rw [List.length_map, List.length_map]; omega) fun p2 H4 e6 n4 h4 => ?_⟩
      have ea : allMeant (vs.take (i + 1)) = allMeant (vs.take i) ++ v.2 := by
        unfold allMeant
        rw [take_more hv', List.flatMap_append, List.flatMap_singleton]
      refine ⟨p2, some (.ref v.1), v4, rfl, e5.trans e6, ?_, ?_⟩
      · rw [h4, ea, List.map_append]
      · rw [ea, List.length_append]
        omega
    · rintro σ H' ⟨p, v3, v4, rfl, e5, h5, n5⟩
      rw [List.length_map, List.take_length] at h5 n5
      have hp : ThingsAt T H' p (allMeant vs) := ⟨h5, fun u hu => by
        obtain ⟨v, hvm, hu⟩ := List.mem_flatMap.mp hu
        exact ((hv.2 v hvm).2 u hu).ex e5⟩
      have hm' := hm.ex e5
      refine ⟨_, rfl, t, rfl, ⟨_, SqL.of hm'.1⟩, fun D hD => lc_data (K := K) (a := t) ms (fun m => V.ref m.1) (fun m => isWrong (allMeant vs) (Ut04.slice wt m.2)) (fun m y _ => y = V.ref m.1) hD (by omega) (SqL.of hm'.1) (fun _ _ _ _ _ h => h) (fun m hmm H2 acc e hy N1 N0 h1 h0 => ?_) (fun H2 ys e hy hp2 => ?_)⟩
      · obtain ⟨dm, fm, g1, g2⟩ := (hm'.2 m hmm).ex e
        refine ⟨rfl, _, rfl, _, rfl, m.1, _, dm, _, _, rfl, g1, T.cl_Mark, T.n_Mark_form, lk_Mark_form _ _ _, p, fm, allMeant vs, _, rfl, hp.ex e, by omega, g2, fun H'' e2 => ⟨_, rfl, ifb (fun c => ⟨_, rfl, h1 c _ _ e2 rfl⟩) (fun c => h0 c _ e2)⟩⟩
      · refine k H2 D (e5.trans e) (e5.free hD) ⟨?_, fun m hmm => (hm'.2 m (List.mem_filter.mp hmm).1).ex e⟩
        rw [hy, paired_eq (f := fun (m : Addr × Nat × Nat) => V.ref m.1) hp2]
end
end Rn
set_option Elab.async false
set_option maxRecDepth 100000
set_option maxHeartbeats 4000000
set_option linter.unusedVariables false
namespace Rn
open PySem PySem.Spec PyProof.Rows L2
theorem paired_refs {α β : Type} {F : α → β} {R : α → Addr → Prop} : ∀ {xs : List α} {ys : List V}, Paired (fun x y => ∃ l, y = V.ref l ∧ R x l) xs ys →
    ∃ qs : List (Addr × β), ys = qs.map (fun q => V.ref q.1) ∧ qs.map (·.2) = xs.map F ∧ ∀ q ∈ qs, ∃ x ∈ xs, q.2 = F x ∧ R x q.1
  | _, _, .nil => ⟨[], rfl, rfl, fun q hq => nomatch hq⟩
  | _, _, .cons (a := x) r t => by
    obtain ⟨l, rfl, hr⟩ := r
    obtain ⟨qs, h1, h2, h3⟩ := paired_refs (F := F) t
    refine ⟨(l, F x) :: qs, by rw [h1]; rfl, by rw [List.map_cons, List.map_cons, h2], fun q hq => ?_⟩
    rcases List.mem_cons.mp hq with rfl | hq
    · exact ⟨x, List.mem_cons_self, rfl, hr⟩
    · obtain ⟨y, hy, h4⟩ := h3 q hq
      exact ⟨y, List.mem_cons_of_mem _ hy, h4⟩
section
variable {P : Program} {w : World} {K : PySem.W.Frag} {mg : Str → Option Value} {base : Heap}
def ckN (ts : List Ut04.Thing) (s t : List Nat) : List Nat :=
  let a := Ut04.sourceMarks ts s
  let b := Ut04.targetMarks ts t
  let p := Ut04.pairs b a []
  let w := Ut04.wrong ts s t
  [a.length, b.length, (p.filter fun x => x.isSome).length] ++ p.map opt0 ++ (w.length :: w.flatMap fun x => [x.1, x.2])
def ckAns (ts : List Ut04.Thing) (s t : List Nat) : List Int := if Ut04.sentOk s = false ∨ Ut04.sentOk t = false ∨ 7 < (Ut04.sourceMarks ts s).length ∨ 7 < (Ut04.targetMarks ts t).length then [-1] else Ut04.ints (ckN ts s t)
def toTMark (us : Us) (ws : List Nat) (x : Nat × Nat) : Ut04.Mark := (x.1, x.2, Ut04.calledTarget (ths us) (Ut04.slice ws x))
theorem targetMarks_eq {us : Us} {ws : List Nat} {ms : Ms} (h : ms.map (·.2) = Ut04.marks (tgts us) ws) : Ut04.targetMarks (ths us) ws = ms.map fun m => toTMark us ws m.2 := by
  unfold Ut04.targetMarks
  rw [tgts_eq, ← h, List.map_map]
  rfl
theorem filt_ths (us : Us) (p : Ut04.Thing → Bool) : (ths us).filter p = ths (us.filter fun u => p u.2) := by
  unfold ths
  rw [List.filter_map]
  rfl
theorem any_ths (us : Us) (p : Ut04.Thing → Bool) : (ths us).any p = us.any fun u => p u.2 := by
  unfold ths
  rw [List.any_map]
  rfl
/-- which target marks go with a source mark: as the specification has it -/
theorem partners_eq {us : Us} (nd : ((ths us).map (·.number)).Nodup) (ws wt : List Nat) (ms : Ms) (x : Nat × Nat) :
    partners (ms.map fun m => toTMark us wt m.2) (toMark us ws x) = parts (us.filter fun u => meant u.2 (Ut04.slice ws x)) wt ms := by
  unfold partners parts
  rw [List.zipIdx_map, List.filter_map, List.map_map]
  congr 1
  refine List.filter_congr fun y hy => ?_
  show Ut04.meets (((ths us).filter fun t => t.sources.contains (Ut04.slice ws x)).map (·.number)) (((ths us).filter fun t => t.targets.any fun z => z.1 == Ut04.slice wt y.1.2 && z.2 != 2).map (·.number)) = _
  rw [meets_iff nd, filt_ths, any_ths]
  rfl
theorem wrong_eq {us : Us} (nd : ((ths us).map (·.number)).Nodup) {ws wt : List Nat} {ms mt : Ms} (h1 : ms.map (·.2) = Ut04.marks (srcs us) ws) (h2 : mt.map (·.2) = Ut04.marks (tgts us) wt) :
    Ut04.wrong (ths us) ws wt = (mt.filter fun m => isWrong (ms.flatMap fun x => us.filter fun u => meant u.2 (Ut04.slice ws x.2)) (Ut04.slice wt m.2)).map (·.2) := by
  unfold Ut04.wrong
  rw [sourceMarks_eq h1, targetMarks_eq h2]
  show ((mt.map fun m => toTMark us wt m.2).filter fun y => Ut04.meets (Ut04.forbidden (ths us) (Ut04.slice wt (y.1, y.2.1))) ((ms.map fun m => toMark us ws m.2).flatMap fun x => x.2.2) && !Ut04.meets y.2.2 ((ms.map fun m => toMark us ws m.2).flatMap fun x => x.2.2)).map (fun y => (y.1, y.2.1)) = _
  rw [List.filter_map, List.map_map]
  have ef : ∀ m ∈ mt, ((fun (y : Ut04.Mark) => Ut04.meets (Ut04.forbidden (ths us) (Ut04.slice wt (y.1, y.2.1))) ((ms.map fun m => toMark us ws m.2).flatMap fun x => x.2.2) && !Ut04.meets y.2.2 ((ms.map fun m => toMark us ws m.2).flatMap fun x => x.2.2)) ∘ fun m => toTMark us wt m.2) m = isWrong (ms.flatMap fun x => us.filter fun u => meant u.2 (Ut04.slice ws x.2)) (Ut04.slice wt m.2) := by
    intro m hm
    have e1 : ((ms.map fun m => toMark us ws m.2).flatMap fun x => x.2.2) = (ms.map fun m => fun (t : Ut04.Thing) => t.sources.contains (Ut04.slice ws m.2)).flatMap fun p => ((ths us).filter p).map (·.number) := by
      rw [List.flatMap_map, List.flatMap_map]
      rfl
    have e2 : ∀ q : Ut04.Thing → Bool, ((ms.map fun m => fun (t : Ut04.Thing) => t.sources.contains (Ut04.slice ws m.2)).flatMap fun p => (ths us).filter p).any q = (ms.flatMap fun x => us.filter fun u => meant u.2 (Ut04.slice ws x.2)).any fun u => q u.2 := by
      intro q
      rw [List.flatMap_map, List.any_flatMap, List.any_flatMap]
      congr 1
      funext x
      rw [filt_ths, any_ths]
      rfl
    show (Ut04.meets (((ths us).filter fun t => t.targets.any fun z => z.1 == Ut04.slice wt m.2 && z.2 == 2).map (·.number)) ((ms.map fun m => toMark us ws m.2).flatMap fun x => x.2.2) && !Ut04.meets (((ths us).filter fun t => t.targets.any fun z => z.1 == Ut04.slice wt m.2 && z.2 != 2).map (·.number)) ((ms.map fun m => toMark us ws m.2).flatMap fun x => x.2.2)) = _
    rw [e1, meets_all nd, meets_all nd, e2, e2]
    rfl
  rw [List.filter_congr ef]
  refine List.map_congr_left fun m _ => rfl
theorem parts_lt (us : Us) (wt : List Nat) (ms : Ms) : ∀ j ∈ parts us wt ms, j < ms.length := by
  intro j hj
  obtain ⟨y, hy, rfl⟩ := List.mem_map.mp hj
  have h := (List.mem_filter.mp hy).1
  have := List.snd_lt_of_mem_zipIdx h
  omega
def sp_compare_marks (T : Txt K mg) : Sp := fun as H Q _ => ∃ (a l t : Addr) (us : Us) (ws wt : List Nat) (ms mt : Ms), as = [.ref a, .ref l, .ref t] ∧ KeptAt T H a us ∧ us.length ≤ 8 ∧ ((ths us).map (·.number)).Nodup ∧ MarksAt T H l ws ms ∧ ms.map (·.2) = Ut04.marks (srcs us) ws ∧ ms.length ≤ 7 ∧
  MarksAt T H t wt mt ∧ mt.map (·.2) = Ut04.marks (tgts us) wt ∧ mt.length ≤ 7 ∧
  ∀ H' p, Same H H' → H p = none → H' p = some (.lst (vI (ckN (ths us) ws wt))) → Q (.ref p) H'
theorem pairsM_len : ∀ (l : List (List Nat)) (k : Nat), (pairsM l k).length = l.length
  | [], _ => rfl
  | ps :: r, k => by
    rw [pairs_step, List.length_cons, List.length_cons, pairsM_len r]
theorem ok_compare_marks (T : Txt K mg) : FnOk P w K mg base CX0 5 T.f_compare_marks T.fd_compare_marks ["terms", "source_marks", "target_marks"] (sp_compare_marks T) := by
  have G_first_pairing : FnOk P w K mg base CX0 3 _ _ _ _ := ok_first_pairing T
  have G_wrong_marks : FnOk P w K mg base CX0 4 _ _ _ _ := ok_wrong_marks T
  have G_things_meant : FnOk P w K mg base CX0 2 _ _ _ _ := ok_things_meant T
  have G_partners_of : FnOk P w K mg base CX0 3 _ _ _ _ := ok_partners_of T
  refine T.F_compare_marks.ok sc_compare_marks (fun vs H Q E h => ?_) (fun cdv A outer s H as Q E hr h => ?_)
  · obtain ⟨a, l, t, us, ws, wt, ms, mt, rfl, _⟩ := h
    rfl
  · obtain ⟨a, l, t, us, ws, wt, ms, mt, rfl, hk, hlen, nd, hms, hmk, hml, hmt, hmk2, hml2, k⟩ := h
    refine ⟨_, (pss_cons (ps_setLc (i := 3) (own := [("mark", 4)]) (g := (gName 4)) (by rfl) sc_compare_marks.nd rfl rfl (sw_true rfl rfl rfl (by decide +kernel)) (pi_list (pv 1)) (blkOk_by (own := [("mark", 4)]) (N := ["terms", "source_marks", "target_marks", "meant_lists", "mark", "partner_lists", "things", "choices", "pairs", "choice", "wrong", "answer"]) (sc := defScope s_compare_marks) (by decide +kernel)) (fun _ _ _ _ _ => (pg_name (i := 4) sc_compare_marks.nd rfl (Or.inl rfl))) (fun _ _ _ _ _ => pts_nil) (fun _ _ _ _ _ => (pe_call G_things_meant (hr.mono (by decide)) rfl T.g_things_meant T.F_things_meant.kp T.b_things_meant .nil pass0 (pa_cons (pv 0) (pa_cons (pe_fldK (K := K) rfl (pv 4) rfl) pa_nil)))))
      (pss_cons (ps_setLc (i := 5) (own := [("things", 6)]) (g := (gName 6)) (by rfl) sc_compare_marks.nd rfl rfl (sw_true rfl rfl rfl (by decide +kernel)) (pi_list (pv 3)) (blkOk_by (own := [("things", 6)]) (N := ["terms", "source_marks", "target_marks", "meant_lists", "mark", "partner_lists", "things", "choices", "pairs", "choice", "wrong", "answer"]) (sc := defScope s_compare_marks) (by decide +kernel)) (fun _ _ _ _ _ => (pg_name (i := 6) sc_compare_marks.nd rfl (Or.inl rfl))) (fun _ _ _ _ _ => pts_nil) (fun _ _ _ _ _ => (pe_call G_partners_of (hr.mono (by decide)) rfl T.g_partners_of T.F_partners_of.kp T.b_partners_of .nil pass0 (pa_cons (pv 6) (pa_cons (pv 2) pa_nil)))))
      (pss_cons (ps_set (i := 7) sc_compare_marks.nd rfl (Or.inl rfl) (pe_call G_first_pairing (hr.mono (by decide)) rfl T.g_first_pairing T.F_first_pairing.kp T.b_first_pairing .nil pass0 (pa_cons (pv 5) (pa_cons (pe_callB call_len_seq (by rfl) T.z_len PySem.boot_len (pa_cons (pv 2) pa_nil)) pa_nil))))
      (pss_cons (ps_set (i := 8) sc_compare_marks.nd rfl (Or.inl rfl) (pe_callB call_len_seq (by rfl) T.z_len PySem.boot_len (pa_cons (pe_lc (own := [("choice", 9)]) (g := (gName 9)) (by rfl) sc_compare_marks.nd (pi_list (pv 7)) (blkOk_by (own := [("choice", 9)]) (N := ["terms", "source_marks", "target_marks", "meant_lists", "mark", "partner_lists", "things", "choices", "pairs", "choice", "wrong", "answer"]) (sc := defScope s_compare_marks) (by decide +kernel)) (fun _ _ _ _ _ => (pg_name (i := 9) sc_compare_marks.nd rfl (Or.inl rfl))) (fun _ _ _ _ _ => (pts_one (pt_cmpR op_gt (pv 9) pe_int (nomark _)))) (fun _ _ _ _ _ => (pv 9))) pa_nil)))
      (pss_cons (ps_set (i := 10) sc_compare_marks.nd rfl (Or.inl rfl) (pe_call G_wrong_marks (hr.mono (by decide)) rfl T.g_wrong_marks T.F_wrong_marks.kp T.b_wrong_marks .nil pass0 (pa_cons (pv 3) (pa_cons (pv 2) pa_nil))))
      (pss_cons (ps_set (i := 11) sc_compare_marks.nd rfl (Or.inl rfl) (pe_op op_cat (pe_op op_cat (pe_lst (pa_cons (pe_callB call_len_seq (by rfl) T.z_len PySem.boot_len (pa_cons (pv 1) pa_nil)) (pa_cons (pe_callB call_len_seq (by rfl) T.z_len PySem.boot_len (pa_cons (pv 2) pa_nil)) (pa_cons (pv 8) pa_nil)))) (pv 7)) (pe_lst (pa_cons (pe_callB call_len_seq (by rfl) T.z_len PySem.boot_len (pa_cons (pv 10) pa_nil)) pa_nil))))
      (pss_cons (ps_for PassesOwn.never rfl (pi_list (pv 10)) (pg_name (i := 4) sc_compare_marks.nd rfl (Or.inl rfl))
      (pss_one (ps_set (i := 11) sc_compare_marks.nd rfl (Or.inl rfl) (pe_op op_cat (pv 11) (pe_lst (pa_cons (pe_fld (pv 4) rfl) (pa_cons (pe_fld (pv 4) rfl) pa_nil)))))))
      (pss_one (ps_ret (pv 11)))))))))), ?_⟩
    -- meant_lists
    refine ⟨_, rfl, l, rfl, ⟨_, SqL.of hms.1⟩, fun D hD => lc_data (K := K) (a := l) ms (fun m => V.ref m.1) (fun _ => true) (fun m y H' => ∃ q, y = V.ref q ∧ q ≠ D ∧ H' q = some (.lst ((us.filter fun u => meant u.2 (Ut04.slice ws m.2)).map fun u => V.ref u.1))) hD (by omega) (SqL.of hms.1) ?_ (fun m hm H' acc e hy N1 N0 h1 h0 => ?_) (fun H1 ys e1 hy hp => ?_)⟩
    · rintro m y H' H'' ex ⟨q, rfl, nq, hq⟩
      exact ⟨q, rfl, nq, ex _ _ nq hq⟩
    · obtain ⟨dm, fm, g1, g2⟩ := (hms.2 m hm).ex e
      refine ⟨rfl, _, rfl, _, rfl, m.1, _, dm, _, _, rfl, g1, T.cl_Mark, T.n_Mark_form, lk_Mark_form _ _ _, a, fm, us, _, rfl, hk.ex e, hlen, g2, fun H2 q e2 nq tq => h1 rfl _ _ e2 ⟨q, rfl, ?_, tq.1⟩⟩
      exact (ne_of_none hy nq).symm
    rw [filter_true] at hp
    obtain ⟨qs, hys, hq2, hq3⟩ := paired_refs (F := fun (m : Addr × Nat × Nat) => us.filter fun u => meant u.2 (Ut04.slice ws m.2)) (R := fun m q => q ≠ D ∧ H1 q = some (.lst ((us.filter fun u => meant u.2 (Ut04.slice ws m.2)).map fun u => V.ref u.1))) hp
    have hth : ∀ u ∈ us, ThingAt T H u.1 u.2 := by
      obtain ⟨_, _, _, _, _, q3⟩ := id hk
      exact q3.2
    have hqs : MeantAt T H1 D qs := by
      refine ⟨by rw [hy, hys], fun q hq => ?_⟩
      obtain ⟨m, hm, e2, nq, hq4⟩ := hq3 q hq
      rw [e2]
      exact ⟨hq4, fun u hu => (hth u (List.mem_filter.mp hu).1).ex e1⟩
    have hq8 : ∀ q ∈ qs, q.2.length ≤ 8 := by
      intro q hq
      obtain ⟨m, hm, e2, _⟩ := hq3 q hq
      rw [e2]
      exact Nat.le_trans (List.length_filter_le _ _) hlen
    have hql : qs.length = ms.length := by
      have := congrArg List.length hq2
      rw [List.length_map, List.length_map] at this
      exact this
    -- partner_lists
    have hmt1 := hmt.ex e1
    refine ⟨_, rfl, D, rfl, ⟨_, SqL.of hqs.1⟩, fun D2 hD2 => lc_data (K := K) (a := D) qs (fun q => V.ref q.1) (fun _ => true) (fun q y H' => ∃ p, y = V.ref p ∧ p ≠ D2 ∧ H' p = some (.lst (vI (parts q.2 wt mt)))) hD2 (by omega) (SqL.of hqs.1) ?_ (fun q hq H' acc e hy2 N1 N0 h1 h0 => ?_) (fun H2 ys2 e2 hy2 hp2 => ?_)⟩
    · rintro m y H' H'' ex ⟨q, rfl, nq, hq⟩
      exact ⟨q, rfl, nq, ex _ _ nq hq⟩
    · refine ⟨rfl, _, rfl, _, rfl, q.1, t, q.2, wt, mt, rfl, (hqs.2 q hq).ex e, Nat.le_trans (hq8 q hq) (by decide), hmt1.ex e, by omega, fun H3 p e3 np hp3 => h1 rfl _ _ e3 ⟨p, rfl, ?_, hp3⟩⟩
      exact (ne_of_none hy2 np).symm
    rw [filter_true] at hp2
    obtain ⟨rs, hrs1, hrs2, hrs3⟩ := paired_refs (F := fun (q : Addr × Us) => parts q.2 wt mt) (R := fun q p => p ≠ D2 ∧ H2 p = some (.lst (vI (parts q.2 wt mt)))) hp2
    have hls : ListsAt H2 D2 rs := by
      refine ⟨by rw [hy2, hrs1], fun r hr => ?_⟩
      obtain ⟨q, hq, e3, _, hr4⟩ := hrs3 r hr
      rw [e3]
      exact hr4
    have hrl : rs.length = ms.length := by
      have := congrArg List.length hrs2
      rw [List.length_map, List.length_map] at this
      omega
    have hparts : rs.map (·.2) = (Ut04.sourceMarks (ths us) ws).map (partners (Ut04.targetMarks (ths us) wt)) := by
      rw [hrs2, sourceMarks_eq hmk, targetMarks_eq hmk2, List.map_map]
      have e4 : qs.map (fun q => parts q.2 wt mt) = (qs.map (·.2)).map fun v => parts v wt mt := by
        rw [List.map_map]
        rfl
      rw [e4, hq2, List.map_map]
      refine List.map_congr_left fun m _ => ?_
      exact (partners_eq nd ws wt mt m.2).symm
    have e12 := e1.trans e2
    -- choices
    refine ⟨_, rfl, _, rfl, t, _, rfl, .inl (SqL.of (e2 _ _ hmt1.1)), D2, rs, mt.length, (by rw [List.length_map]; rfl), hls, fun r hr j hj => ?_, hml2, by omega, fun H3 ch e3 n3 h3 => ?_⟩
    · obtain ⟨q, hq, e5, _⟩ := hrs3 r hr
      rw [e5] at hj
      exact parts_lt _ _ _ j hj
    rw [hparts] at h3
    have hpm := pairs_eq (Ut04.targetMarks (ths us) wt) (Ut04.sourceMarks (ths us) ws) [] 0 Bits.zero
    have hcnt := pairs_count (Ut04.pairs (Ut04.targetMarks (ths us) wt) (Ut04.sourceMarks (ths us) ws) [])
    rw [hpm] at hcnt
    have hcl := pairsM_len ((Ut04.sourceMarks (ths us) ws).map (partners (Ut04.targetMarks (ths us) wt))) 0
    rw [← hparts, List.length_map, hrl, hparts] at hcl
    have hN : ckN (ths us) ws wt = [ms.length, mt.length, ((pairsM ((Ut04.sourceMarks (ths us) ws).map (partners (Ut04.targetMarks (ths us) wt))) 0).filter fun c => decide (0 < c)).length] ++ pairsM ((Ut04.sourceMarks (ths us) ws).map (partners (Ut04.targetMarks (ths us) wt))) 0 ++ ((Ut04.wrong (ths us) ws wt).length :: (Ut04.wrong (ths us) ws wt).flatMap fun x => [x.1, x.2]) := by
      unfold ckN
      dsimp only
      rw [hpm, hcnt]
      congr 3
      · rw [sourceMarks_eq hmk, List.length_map]
      · rw [targetMarks_eq hmk2, List.length_map]
    generalize hcs : pairsM ((Ut04.sourceMarks (ths us) ws).map (partners (Ut04.targetMarks (ths us) wt))) 0 = cs at h3 hN hcl
    have e13 := e12.trans e3
    -- pairs
    refine ⟨_, rfl, ch, rfl, ⟨_, SqL.of h3⟩, fun D3 hD3 => lc_data (K := K) (a := ch) cs (fun (c : Nat) => V.int (c : Int)) (fun c => decide (0 < c)) (fun c y _ => y = V.int (c : Int)) hD3 (by omega) (SqL.of h3) (fun _ _ _ _ _ h => h) (fun c hc H' acc e hy3 N1 N0 h1 h0 => ?_) (fun H4 ys4 e4 hy4 hp4 => ?_)⟩
    · refine ⟨rfl, _, rfl, _, _, rfl, rfl, _, rfl, ifb (fun c1 => ⟨_, rfl, h1 ?_ _ _ (Same.refl _) rfl⟩) (fun c1 => h0 ?_ _ (Same.refl _))⟩
      · exact decide_eq_true (by have := of_decide_eq_true c1; omega)
      · exact decide_eq_false (by have := of_decide_eq_false c1; omega)
    have hy4l : ys4.length = (cs.filter fun c => decide (0 < c)).length := (Paired.length hp4).symm
    refine ⟨D3, _, rfl, .inl (SqL.of hy4), ?_⟩
    have e14 := e13.trans e4
    -- wrong
    refine ⟨_, rfl, _, rfl, D, t, qs, wt, mt, rfl, hqs.ex ((e2.trans e3).trans e4), hq8, by omega, hmt.ex e14, by omega, fun H5 wr e5 n5 hwr => ?_⟩
    have hall : allMeant qs = ms.flatMap fun x => us.filter fun u => meant u.2 (Ut04.slice ws x.2) := by
      unfold allMeant
      have e6 : qs.flatMap (·.2) = (qs.map (·.2)).flatten := by rw [List.flatMap_def]
      rw [e6, hq2, ← List.flatMap_def]
    rw [hall] at hwr
    have hwe := wrong_eq nd hmk hmk2
    generalize hws : (mt.filter fun m => isWrong (ms.flatMap fun x => us.filter fun u => meant u.2 (Ut04.slice ws x.2)) (Ut04.slice wt m.2)) = wm at hwr hwe
    have hwl : wm.length ≤ 7 := by
      rw [← hws]
      exact Nat.le_trans (List.length_filter_le _ _) hml2
    have e15 := e14.trans e5
    have hms5 := hms.ex e15
    have hmt5 := hmt.ex e15
    have h35 := e5 _ _ (e4 _ _ h3)
    -- answer
    refine ⟨_, rfl, l, _, rfl, .inl (SqL.of hms5.1), _, rfl, t, _, rfl, .inl (SqL.of hmt5.1), _, rfl, big (by show 3 ≤ 1000000; decide), fun p1 n6 => ?_⟩
    generalize hG6 : upd _ p1 _ = H6
    have e6 := nwE hG6 n6
    have h6 := nwP hG6
    refine ⟨_, rfl, cat_step h6 (e6 _ _ h35) (by rw [vI_length]; simp only [List.length_cons, List.length_nil]; omega) fun p2 H7 e7 n7 h7 => ?_⟩
    have hwr7 := hwr.ex (e6.trans e7)
    refine ⟨_, rfl, wr, _, rfl, .inl (SqL.of hwr7.1), big (by show 1 ≤ 1000000; decide), fun p3 n8 => ?_⟩
    generalize hG8 : upd _ p3 _ = H8
    have e8 := nwE hG8 n8
    have h8 := nwP hG8
    refine cat_step (e8 _ _ h7) h8 (by simp only [List.length_append, List.length_cons, List.length_nil, vI_length]; omega) fun p4 H9 e9 n9 h9 => ?_
    have e59 := ((e6.trans e7).trans e8).trans e9
    have hwr9 := hwr.ex e59
    have base9 : H9 p4 = some (.lst (vI ([ms.length, mt.length, (cs.filter fun c => decide (0 < c)).length] ++ cs ++ (wm.length :: [])))) := by
      rw [h9]
      simp only [vI_append, vI_cons, List.length_map, hy4l, List.append_assoc, List.cons_append, List.nil_append]
      rfl
    refine ⟨_, rfl, wr, rfl, ⟨_, SqL.of hwr9.1⟩, for_it (walk_list (K := K) (a := wr) (xs := wm.map fun m => V.ref m.1))
      (fun i σ H' => ∃ (p : Addr) (v4 : Option V) (σ0 : L2.St), σ = [some (.ref a), some (.ref l), some (.ref t), some (.ref D), v4, some (.ref D2), none, some (.ref ch), some (.int ((ys4.length : Nat) : Int)), none, some (.ref wr), some (.ref p)] ∧ Same H9 H' ∧ H p = none ∧ H' p = some (.lst (vI ([ms.length, mt.length, (cs.filter fun c => decide (0 < c)).length] ++ cs ++ (wm.length :: (wm.take i).flatMap fun m => [m.2.1, m.2.2])))))
      ⟨p4, none, [], rfl, Same.refl _, ((e15.trans e6).trans (e7.trans e8)).free n9, base9⟩ (fun i σ H' _ ⟨_, _, _, _, e10, _⟩ => SqL.of (e10 _ _ hwr9.1)) ?_ ?_⟩
    · rintro i x σ H' H10 hi ⟨p, v4, σ0, rfl, e10, np, hp10⟩ ⟨rfl, hx⟩
      obtain ⟨m, hm', rfl⟩ := at_map hx
      have hi' : i < wm.length := (List.getElem?_eq_some_iff.mp hm').1
      obtain ⟨dm, fm, g1, g2⟩ := (hwr9.2 m (List.mem_of_getElem? hm')).ex e10
      refine ⟨_, rfl, _, rfl, m.1, _, dm, _, _, rfl, g1, T.cl_Mark, T.n_Mark_begin, lk_Mark_begin _ _ _, _, rfl, m.1, _, dm, _, _, rfl, g1, T.cl_Mark, T.n_Mark_end, lk_Mark_end _ _ _, big (by show 2 ≤ 1000000; decide), fun p5 n11 => ?_⟩
      generalize hG11 : upd _ p5 _ = H11
      have e11 := nwE hG11 n11
      have h11 := nwP hG11
      have hfl : ((wm.take i).flatMap fun m => [m.2.1, m.2.2]).length ≤ 2 * i := by
        clear hp10 hm' hx
        have : ∀ l : Ms, (l.flatMap fun m => [m.2.1, m.2.2]).length = 2 * l.length := by
          intro l
          induction l with
          | nil => rfl
          | cons y l ih =>
            rw [List.flatMap_cons, List.length_append, ih, List.length_cons]
            simp only [List.length_cons, List.length_nil]
            omega
        rw [this, List.length_take]
        omega
      refine cat_step (e11 _ _ hp10) h11 (by simp only [List.length_append, List.length_cons, List.length_nil, vI_length]; omega) fun p6 H12 e16 n12 h12 => ?_
      refine ⟨p6, some (.ref m.1), [], rfl, (e10.trans e11).trans e16, ((((e15.trans e59).trans e10).trans e11)).free n12, ?_⟩
      rw [h12, take_more hm', List.flatMap_append, List.flatMap_singleton]
      simp only [vI_append, vI_cons, List.append_assoc, List.cons_append, List.nil_append]
      rfl
    · rintro σ H' ⟨p, v4, σ0, rfl, e10, np, hp10⟩
      refine ⟨_, rfl, k H' p ((e15.trans e59).trans e10) np ?_⟩
      rw [hp10, List.length_map, List.take_length, hN, hwe, List.length_map, List.flatMap_map]
def sp_check_translation (T : Txt K mg) : Sp := fun as H Q _ => ∃ (a sa ta : Addr) (us : Us) (ws wt : List Nat), as = [.ref a, .ref sa, .ref ta] ∧ KeptAt T H a us ∧ us.length ≤ 8 ∧ ((ths us).map (·.number)).Nodup ∧ SqL K H sa (vI ws) ∧ ws.length ≤ 1000 ∧ SqL K H ta (vI wt) ∧ wt.length ≤ 1000 ∧
  ∀ H' p, Same H H' → H p = none → H' p = some (.lst ((ckAns (ths us) ws wt).map V.int)) → Q (.ref p) H'
theorem ok_check_translation (T : Txt K mg) : FnOk P w K mg base CX0 6 T.f_check_translation T.fd_check_translation ["terms", "sentence", "translation"] (sp_check_translation T) := by
  have G_all_source_forms : FnOk P w K mg base CX0 1 _ _ _ _ := ok_all_source_forms T
  have G_all_target_forms : FnOk P w K mg base CX0 1 _ _ _ _ := ok_all_target_forms T
  have G_find_marks : FnOk P w K mg base CX0 3 _ _ _ _ := ok_find_marks T
  have G_is_sentence : FnOk P w K mg base CX0 2 _ _ _ _ := ok_is_sentence T
  have G_refusal : FnOk P w K mg base CX0 1 _ _ _ _ := ok_refusal T
  have G_compare_marks : FnOk P w K mg base CX0 5 _ _ _ _ := ok_compare_marks T
  refine T.F_check_translation.ok sc_check_translation (fun vs H Q E h => ?_) (fun cdv A outer s H as Q E hr h => ?_)
  · obtain ⟨a, sa, ta, us, ws, wt, rfl, _⟩ := h
    rfl
  · obtain ⟨a, sa, ta, us, ws, wt, rfl, hk, hlen, nd, hS, hwl, hS2, hwl2, k⟩ := h
    refine ⟨_, (pss_cons (ps_if (pt_not (PW.pt (pw_and (pt_val (pe_call G_is_sentence (hr.mono (by decide)) rfl T.g_is_sentence T.F_is_sentence.kp T.b_is_sentence .nil pass0 (pa_cons (pv 1) pa_nil))) (pw_and1 (pt_val (pe_call G_is_sentence (hr.mono (by decide)) rfl T.g_is_sentence T.F_is_sentence.kp T.b_is_sentence .nil pass0 (pa_cons (pv 2) pa_nil)))))))
      (pss_one (ps_ret (pe_call G_refusal (hr.mono (by decide)) rfl T.g_refusal T.F_refusal.kp T.b_refusal .nil pass0 (pa_cons (pe_glob (v := .int 1) rfl T.g_NOT_FITTING ⟨_, rfl⟩) pa_nil))))
      pss_nil)
      (pss_cons (ps_set (i := 3) sc_check_translation.nd rfl (Or.inl rfl) (pe_call G_find_marks (hr.mono (by decide)) rfl T.g_find_marks T.F_find_marks.kp T.b_find_marks .nil pass0 (pa_cons (pv 1) (pa_cons (pe_call G_all_source_forms (hr.mono (by decide)) rfl T.g_all_source_forms T.F_all_source_forms.kp T.b_all_source_forms .nil pass0 (pa_cons (pv 0) pa_nil)) pa_nil))))
      (pss_cons (ps_set (i := 4) sc_check_translation.nd rfl (Or.inl rfl) (pe_call G_find_marks (hr.mono (by decide)) rfl T.g_find_marks T.F_find_marks.kp T.b_find_marks .nil pass0 (pa_cons (pv 2) (pa_cons (pe_call G_all_target_forms (hr.mono (by decide)) rfl T.g_all_target_forms T.F_all_target_forms.kp T.b_all_target_forms .nil pass0 (pa_cons (pv 0) pa_nil)) pa_nil))))
      (pss_cons (ps_if (pt_cmpR op_gt (pe_callB (call_max2 rfl) (by rfl) T.z_max PyProof.Rows.boot_max (pa_cons (pe_callB call_len_seq (by rfl) T.z_len PySem.boot_len (pa_cons (pv 3) pa_nil)) (pa_cons (pe_callB call_len_seq (by rfl) T.z_len PySem.boot_len (pa_cons (pv 4) pa_nil)) pa_nil))) (pe_glob (v := .int 7) rfl T.g_MOST_CHECKED_MARKS ⟨_, rfl⟩) (nomark _))
      (pss_one (ps_ret (pe_call G_refusal (hr.mono (by decide)) rfl T.g_refusal T.F_refusal.kp T.b_refusal .nil pass0 (pa_cons (pe_glob (v := .int 1) rfl T.g_NOT_FITTING ⟨_, rfl⟩) pa_nil))))
      pss_nil)
      (pss_one (ps_ret (pe_call G_compare_marks (hr.mono (by decide)) rfl T.g_compare_marks T.F_compare_marks.kp T.b_compare_marks .nil pass0 (pa_cons (pv 0) (pa_cons (pv 3) (pa_cons (pv 4) pa_nil)))))))))), ?_⟩
    unfold ckAns at k
    have refuse : ∀ H0, Same H H0 → (Ut04.sentOk ws = false ∨ Ut04.sentOk wt = false ∨ 7 < (Ut04.sourceMarks (ths us) ws).length ∨ 7 < (Ut04.targetMarks (ths us) wt).length) → sp_refusal [.int 1] H0 Q E0 := by
      intro H0 e0 c
      rw [if_pos c] at k
      exact ⟨1, rfl, fun H1 p e1 n1 h1 => k H1 p (e0.trans e1) (e0.free n1) h1⟩
    refine ⟨_, rfl, sa, ws, rfl, .inl hS, hwl, fun H0 e0 => ⟨_, rfl, ?_⟩⟩
    cases hso : Ut04.sentOk ws with
    | false => exact refuse H0 e0 (.inl hso)
    | true =>
      refine ⟨_, rfl, ta, wt, rfl, .inl (e0.seq hS2), hwl2, fun H1 e1 => ⟨_, rfl, ?_⟩⟩
      have e01 := e0.trans e1
      cases hso2 : Ut04.sentOk wt with
      | false => exact refuse H1 e01 (.inr (.inl hso2))
      | true =>
        have hf : ∃ l', ThingsAt T H l' us := by
          obtain ⟨_, l', _, _, _, q3⟩ := id hk
          exact ⟨l', q3⟩
        obtain ⟨l', q3⟩ := hf
        refine ⟨_, rfl, _, rfl, a, us, rfl, hk.ex e01, hlen, fun H2 d e2 n2 h2 => ?_⟩
        have e02 := e01.trans e2
        refine ⟨sa, d, ws, srcs us, rfl, e02.seq hS, h2, fun f hf => formOk_len (srcs_mem q3 hf), hwl, fun H3 l ms e3 n3 hms hmk => ?_⟩
        have e03 := e02.trans e3
        refine ⟨_, rfl, _, rfl, a, us, rfl, hk.ex e03, hlen, fun H4 d4 e4 n4 h4 => ?_⟩
        have e04 := e03.trans e4
        refine ⟨ta, d4, wt, tgts us, rfl, e04.seq hS2, h4, fun f hf => formOk_len (tgts_mem q3 hf), hwl2, fun H5 t mt e5 n5 hmt hmk2 => ?_⟩
        have e05 := e04.trans e5
        have hms5 := hms.ex (e4.trans e5)
        refine ⟨_, rfl, l, _, rfl, .inl (SqL.of hms5.1), _, rfl, t, _, rfl, .inl (SqL.of hmt.1), _, _, rfl, _, _, rfl, rfl, _, rfl, ?_⟩
        have l1 : (Ut04.sourceMarks (ths us) ws).length = ms.length := by rw [sourceMarks_eq hmk, List.length_map]
        have l2 : (Ut04.targetMarks (ths us) wt).length = mt.length := by rw [targetMarks_eq hmk2, List.length_map]
        refine ifb (fun c => ?_) (fun c => ?_)
        · have c' := of_decide_eq_true c
          rw [List.length_map, List.length_map] at c'
          refine refuse H5 e05 (.inr (.inr ?_))
          rw [l1, l2]
          split at c' <;> omega
        · have c' := of_decide_eq_false c
          rw [List.length_map, List.length_map] at c'
          have b1 : ms.length ≤ 7 ∧ mt.length ≤ 7 := by split at c' <;> omega
          refine ⟨_, rfl, _, rfl, _, rfl, a, l, t, us, ws, wt, ms, mt, rfl, hk.ex e05, hlen, nd, hms5, hmk, b1.1, hmt, hmk2, b1.2, fun H6 p e6 n6 h6 => ?_⟩
          rw [if_neg (by rw [hso, hso2, l1, l2]; simp; omega)] at k
          refine k H6 p (e05.trans e6) (e05.free n6) ?_
          rw [h6, ints_vI]
end
end Rn
set_option Elab.async false
set_option maxRecDepth 100000
set_option maxHeartbeats 4000000
set_option linter.unusedVariables false
namespace Rn
open PySem PySem.Spec PyProof.Rows L2
/-! ### none twice -/
theorem nodup_len {α : Type} [DecidableEq α] : ∀ (l D : List α), l.Nodup → (∀ x ∈ l, x ∈ D) → l.length ≤ D.length
  | [], _, _, _ => Nat.zero_le _
  | a :: l, D, h, hs => by
    obtain ⟨h1, h2⟩ := List.nodup_cons.mp h
    have ha := hs a List.mem_cons_self
    have hr := nodup_len l (D.erase a) h2 fun x hx => (List.mem_erase_of_ne (fun (e : x = a) => h1 (e ▸ hx))).mpr (hs x (List.mem_cons_of_mem _ hx))
    rw [List.length_erase_of_mem ha] at hr
    have : 0 < D.length := List.length_pos_of_mem ha
    rw [List.length_cons]
    omega
theorem addF_nodup {l : List (List Nat)} {f : List Nat} (h : l.Nodup) : (addF l f).Nodup := by
  unfold addF
  split
  · exact h
  · rename_i hc
    rw [List.nodup_append]
    refine ⟨h, List.nodup_cons.mpr ⟨by simp, List.nodup_nil⟩, fun x hx y hy e => ?_⟩
    rw [List.mem_singleton.mp hy] at e
    exact hc (List.contains_iff_mem.mpr (e ▸ hx))
theorem fold_nodup : ∀ (m l : List (List Nat)), l.Nodup → (m.foldl addF l).Nodup
  | [], _, h => h
  | f :: m, l, h => by
    rw [List.foldl_cons]
    exact fold_nodup m _ (addF_nodup h)
theorem keysOf_nodup (l : List (List Nat)) : (keysOf l).Nodup := fold_nodup l [] List.nodup_nil
def toI (f : List Nat) : List Int := f.map fun (n : Nat) => (n : Int)
theorem toI_inj {f g : List Nat} (h : toI f = toI g) : f = g := by
  have e := congrArg (List.map Int.toNat) h
  unfold toI at e
  rw [List.map_map, List.map_map] at e
  have i : (Int.toNat ∘ fun (n : Nat) => (n : Int)) = id := funext fun n => Int.toNat_natCast n
  rw [i, List.map_id, List.map_id] at e
  exact e
theorem toI_vI (f : List Nat) : (toI f).map V.int = vI f := by
  unfold toI vI
  rw [List.map_map]
  rfl
/-- a list of items, each once, with just the forms: as many as eraseDups has -/
theorem set_len {fs : List (List Nat)} {L : List (List Int)} (nd : L.Nodup) (h1 : ∀ x ∈ L, x ∈ fs.map toI) (h2 : ∀ x ∈ fs.map toI, x ∈ L) : L.length = fs.eraseDups.length := by
  rw [← keysOf_eq]
  have a1 : ((keysOf fs).map toI).length ≤ L.length := nodup_len _ _ (by
    rw [List.Nodup, List.pairwise_map]
    exact (keysOf_nodup fs).imp fun hne e => hne (toI_inj e)) (fun x hx => by
    obtain ⟨f, hf, rfl⟩ := List.mem_map.mp hx
    exact h2 _ (List.mem_map.mpr ⟨f, keysOf_mem.mp hf, rfl⟩))
  have a2 : L.length ≤ ((keysOf fs).map toI).length := nodup_len _ _ nd (fun x hx => by
    obtain ⟨f, hf, rfl⟩ := List.mem_map.mp (h1 x hx)
    exact List.mem_map.mpr ⟨f, keysOf_mem.mpr hf, rfl⟩)
  rw [List.length_map] at a1 a2
  omega
def formsOk (fs : List (List Nat)) : Bool := decide (fs.eraseDups.length = fs.length) && fs.all Ut04.formOk
section
variable {P : Program} {w : World} {K : PySem.W.Frag} {mg : Str → Option Value} {base : Heap}
def sp_are_forms (K : PySem.W.Frag) : Sp := fun vs H Q _ => ∃ (l : Addr) (zs : List (Addr × List Nat)), vs = [.ref l] ∧ FormsAt H l zs ∧ zs.length < 64 ∧ (∀ z ∈ zs, z.2.length ≤ 1000) ∧
  ∀ H', Same H H' → Q (.bl (formsOk (zs.map (·.2)))) H'
theorem ok_are_forms (T : Txt K mg) : FnOk P w K mg base CX0 3 T.f_are_forms T.fd_are_forms ["forms"] (sp_are_forms K) := by
  have G_is_form : FnOk P w K mg base CX0 2 _ _ _ _ := ok_is_form T
  refine T.F_are_forms.ok sc_are_forms (fun vs H Q E h => ?_) (fun cdv A outer s H vs Q E hr h => ?_)
  · obtain ⟨l, zs, rfl, _⟩ := h
    rfl
  · obtain ⟨l, zs, rfl, hz, hlen, hzl, k⟩ := h
    refine ⟨_, (pss_cons (ps_set (i := 1) sc_are_forms.nd rfl (Or.inl rfl) (pe_cmpR op_eq (pe_callB len_setT (by rfl) T.z_len PySem.boot_len (pa_cons (pe_callTy (cr_setOfT rfl (hu64 hr)) (by rfl) T.z_set PyProof.Rows.boot_set (pa_cons (pv 0) pa_nil)) pa_nil)) (pe_callB call_len_seq (by rfl) T.z_len PySem.boot_len (pa_cons (pv 0) pa_nil)) (nomark _)))
      (pss_one (ps_ret (pe_and (pv 1) (pe_one (pe_callB (cr_all rfl) (by rfl) T.z_all boot_all1 (pa_cons (pe_lc (own := [("form", 2)]) (g := (gName 2)) (by rfl) sc_are_forms.nd (pi_list (pv 0)) (blkOk_by (own := [("form", 2)]) (N := ["forms", "none_twice", "form"]) (sc := defScope s_are_forms) (by decide +kernel)) (fun _ _ _ _ _ => (pg_name (i := 2) sc_are_forms.nd rfl (Or.inl rfl))) (fun _ _ _ _ _ => pts_nil) (fun _ _ _ _ _ => (pe_call G_is_form (hr.mono (by decide)) rfl T.g_is_form T.F_is_form.kp T.b_is_form .nil pass0 (pa_cons (pv 2) pa_nil)))) pa_nil))))))), ?_⟩
    refine ⟨_, rfl, l, zs.map fun z => (z.1, toI z.2), rfl, ?_, ?_, (by rw [List.length_map]; exact hlen), fun sa L na hL1 hL2 => ?_⟩
    · rw [List.map_map]
      exact SqL.of hz.1
    · intro p hp
      obtain ⟨z, hz', rfl⟩ := List.mem_map.mp hp
      rw [toI_vI]
      exact SqT.of (hz.2 z hz')
    generalize hG0 : upd _ sa _ = H0
    have e0 := nwE hG0 na
    have h0 := nwP hG0
    refine ⟨sa, L, rfl, h0, fun ndL => ⟨_, rfl, l, _, rfl, .inl (SqL.of (e0 _ _ hz.1)), rfl, ?_⟩⟩
    have eL : L.length = (zs.map (·.2)).eraseDups.length := by
      have := set_len (fs := zs.map (·.2)) ndL (fun x hx => by
        obtain ⟨p, hp, rfl⟩ := List.mem_map.mp hx
        obtain ⟨z, hz', rfl⟩ := List.mem_map.mp (hL1 p hp)
        exact List.mem_map.mpr ⟨z.2, List.mem_map.mpr ⟨z, hz', rfl⟩, rfl⟩) (fun x hx => by
        obtain ⟨f, hf, rfl⟩ := List.mem_map.mp hx
        obtain ⟨z, hz', rfl⟩ := List.mem_map.mp hf
        exact hL2 (z.1, toI z.2) (List.mem_map.mpr ⟨z, hz', rfl⟩))
      rw [List.length_map] at this
      exact this
    have ed : decide (V.int ((L.length : Nat) : Int) = V.int (((zs.map fun z => V.ref z.1).length : Nat) : Int)) = decide ((zs.map (·.2)).eraseDups.length = (zs.map (·.2)).length) := by
      rw [← eL, List.length_map, List.length_map]
      by_cases c : L.length = zs.length
      · rw [decide_eq_true c]
        exact decide_eq_true (by rw [c])
      · rw [decide_eq_false c]
        exact decide_eq_false fun q => c (by injection q with q; omega)
    rw [ed]
    unfold formsOk at k
    refine ⟨_, rfl, _, rfl, ifb (fun c => ?_) (fun c => ?_)⟩
    · rw [c, Bool.true_and] at k
      have hz0 := hz.ex e0
      refine ⟨_, rfl, l, rfl, ⟨_, SqL.of hz0.1⟩, fun D hD => lc_data (K := K) (a := l) zs (fun z => V.ref z.1) (fun _ => true) (fun z y _ => y = V.bl (Ut04.formOk z.2)) hD (by omega) (SqL.of hz0.1) (fun _ _ _ _ _ h => h) (fun z hz' H' acc e hy N1 N0 h1 h0 => ?_) (fun H2 ys e hy hp => ?_)⟩
      · exact ⟨rfl, _, rfl, z.1, z.2, rfl, .inr (SqT.of (e _ _ (hz0.2 z hz'))), hzl z hz', fun H'' e2 => h1 rfl _ _ e2 rfl⟩
      · rw [filter_true] at hp
        have ey := paired_eq (f := fun (z : Addr × List Nat) => V.bl (Ut04.formOk z.2)) hp
        refine ⟨D, zs.map fun z => Ut04.formOk z.2, rfl, ?_, ?_⟩
        · rw [List.map_map]
          rw [ey] at hy
          exact SqL.of hy
        · rw [all_id]
          rw [List.all_map] at k
          exact k _ (e0.trans e)
    · rw [c, Bool.false_and] at k
      exact k _ e0
def sp_source_forms_fit (K : PySem.W.Frag) : Sp := fun vs H Q _ => ∃ (l : Addr) (zs : List (Addr × List Nat)), vs = [.ref l] ∧ FormsAt H l zs ∧ zs.length < 64 ∧ (∀ z ∈ zs, z.2.length ≤ 1000) ∧
  ∀ H', Same H H' → Q (.bl (decide (1 ≤ zs.length) && (decide (zs.length ≤ 3) && formsOk (zs.map (·.2))))) H'
theorem le_cast (n m : Nat) : decide ((n : Int) ≤ (m : Int)) = decide (n ≤ m) := len_le n m
theorem ok_source_forms_fit (T : Txt K mg) : FnOk P w K mg base CX0 4 T.f_source_forms_fit T.fd_source_forms_fit ["forms"] (sp_source_forms_fit K) := by
  have G_are_forms : FnOk P w K mg base CX0 3 _ _ _ _ := ok_are_forms T
  refine T.F_source_forms_fit.ok sc_source_forms_fit (fun vs H Q E h => ?_) (fun cdv A outer s H vs Q E hr h => ?_)
  · obtain ⟨l, zs, rfl, _⟩ := h
    rfl
  · obtain ⟨l, zs, rfl, hz, hlen, hzl, k⟩ := h
    refine ⟨_, (pss_one (ps_ret (pe_and (pe_chain op_le op_le pe_int (pe_callB call_len_seq (by rfl) T.z_len PySem.boot_len (pa_cons (pv 0) pa_nil)) (pe_glob (v := .int 3) rfl T.g_MOST_SOURCE_FORMS ⟨_, rfl⟩)) (pe_one (pe_call G_are_forms (hr.mono (by decide)) rfl T.g_are_forms T.F_are_forms.kp T.b_are_forms .nil pass0 (pa_cons (pv 0) pa_nil)))))), ?_⟩
    have e1 : decide ((1 : Int) ≤ (((zs.map fun z => V.ref z.1).length : Nat) : Int)) = decide (1 ≤ zs.length) := by
      rw [List.length_map]
      exact le_cast 1 zs.length
    have e2 : decide ((((zs.map fun z => V.ref z.1).length : Nat) : Int) ≤ 3) = decide (zs.length ≤ 3) := by
      rw [List.length_map]
      exact le_cast zs.length 3
    refine ⟨_, rfl, l, _, rfl, .inl (SqL.of hz.1), _, _, rfl, rfl, _, rfl, ifb (fun c1 => ⟨_, _, rfl, rfl, _, rfl, ifb (fun c2 => ⟨_, rfl, l, zs, rfl, hz, hlen, hzl, fun H' e => ?_⟩) (fun c2 => ?_)⟩) (fun c1 => ⟨_, rfl, ?_⟩)⟩
    · rw [e1] at c1
      rw [e2] at c2
      rw [c1, c2] at k
      exact k _ e
    · rw [e1] at c1
      rw [e2] at c2
      rw [c1, c2] at k
      exact k _ (Same.refl _)
    · rw [e1] at c1
      rw [c1] at k
      exact k _ (Same.refl _)
def sp_target_forms_fit (K : PySem.W.Frag) : Sp := fun vs H Q _ => ∃ (l : Addr) (ys : List (Addr × Addr × (List Nat × Nat))), vs = [.ref l] ∧ PairsAt H l ys ∧ ys.length < 64 ∧ (∀ y ∈ ys, y.2.2.1.length ≤ 1000) ∧
  ∀ H', Same H H' → Q (.bl (decide (ys.length ≤ 4) && ((ys.all fun y => decide (y.2.2.2 ≤ 2)) && formsOk (ys.map (·.2.2.1))))) H'
theorem ok_target_forms_fit (T : Txt K mg) : FnOk P w K mg base CX0 4 T.f_target_forms_fit T.fd_target_forms_fit ["pairs"] (sp_target_forms_fit K) := by
  have G_are_forms : FnOk P w K mg base CX0 3 _ _ _ _ := ok_are_forms T
  refine T.F_target_forms_fit.ok sc_target_forms_fit (fun vs H Q E h => ?_) (fun cdv A outer s H vs Q E hr h => ?_)
  · obtain ⟨l, ys, rfl, _⟩ := h
    rfl
  · obtain ⟨l, ys, rfl, hy0, hlen, hzl, k⟩ := h
    refine ⟨_, (pss_cons (ps_set (i := 1) sc_target_forms_fit.nd rfl (Or.inl rfl) (pe_callB (cr_all rfl) (by rfl) T.z_all boot_all1 (pa_cons (pe_lc (own := [("form", 2), ("standing", 3)]) (g := (gTup K 2 (gCons (gName 2) (gCons (gName 3) gNil)))) (by rfl) sc_target_forms_fit.nd (pi_list (pv 0)) (blkOk_by (own := [("form", 2), ("standing", 3)]) (N := ["pairs", "standings_fit", "form", "standing"]) (sc := defScope s_target_forms_fit) (by decide +kernel)) (fun _ _ _ _ _ => (pg_tup rfl (pgs_cons (pg_name (i := 2) sc_target_forms_fit.nd rfl (Or.inl rfl)) (pgs_cons (pg_name (i := 3) sc_target_forms_fit.nd rfl (Or.inl rfl)) pgs_nil)))) (fun _ _ _ _ _ => pts_nil) (fun _ _ _ _ _ => (pe_cmpR op_le (pv 3) (pe_glob (v := .int 2) rfl T.g_FORBIDDEN ⟨_, rfl⟩) (nomark _)))) pa_nil)))
      (pss_one (ps_ret (pe_and (pe_cmpR op_le (pe_callB call_len_seq (by rfl) T.z_len PySem.boot_len (pa_cons (pv 0) pa_nil)) (pe_glob (v := .int 4) rfl T.g_MOST_TARGET_FORMS ⟨_, rfl⟩) (nomark _)) (pe_and (pv 1) (pe_one (pe_call G_are_forms (hr.mono (by decide)) rfl T.g_are_forms T.F_are_forms.kp T.b_are_forms .nil pass0 (pa_cons (pe_lc (own := [("form", 2), ("standing", 3)]) (g := (gTup K 2 (gCons (gName 2) (gCons (gName 3) gNil)))) (by rfl) sc_target_forms_fit.nd (pi_list (pv 0)) (blkOk_by (own := [("form", 2), ("standing", 3)]) (N := ["pairs", "standings_fit", "form", "standing"]) (sc := defScope s_target_forms_fit) (by decide +kernel)) (fun _ _ _ _ _ => (pg_tup rfl (pgs_cons (pg_name (i := 2) sc_target_forms_fit.nd rfl (Or.inl rfl)) (pgs_cons (pg_name (i := 3) sc_target_forms_fit.nd rfl (Or.inl rfl)) pgs_nil)))) (fun _ _ _ _ _ => pts_nil) (fun _ _ _ _ _ => (pv 2))) pa_nil)))))))), ?_⟩
    refine ⟨_, rfl, l, rfl, ⟨_, SqL.of hy0.1⟩, fun D hD => lc_data (K := K) (a := l) ys (fun y => V.ref y.1) (fun _ => true) (fun y v _ => v = V.bl (decide (y.2.2.2 ≤ 2))) hD (by omega) (SqL.of hy0.1) (fun _ _ _ _ _ h => h) (fun y hy' H' acc e hy N1 N0 h1 h0 => ?_) (fun H2 vs2 e hy hp => ?_)⟩
    · obtain ⟨t1, t2⟩ := hy0.2 y hy'
      refine ⟨_, _, rfl, SqT.of (e _ _ t1), rfl, _, _, rfl, _, _, rfl, rfl, rfl, _, rfl, _, _, rfl, rfl, h1 rfl _ _ (Same.refl _) ?_⟩
      show V.bl (decide ((y.2.2.2 : Int) ≤ 2)) = V.bl (decide (y.2.2.2 ≤ 2))
      rw [show decide ((y.2.2.2 : Int) ≤ 2) = decide (y.2.2.2 ≤ 2) from le_cast y.2.2.2 2]
    rw [filter_true] at hp
    have ey := paired_eq (f := fun (y : Addr × Addr × (List Nat × Nat)) => V.bl (decide (y.2.2.2 ≤ 2))) hp
    refine ⟨D, ys.map fun y => decide (y.2.2.2 ≤ 2), rfl, ?_, ?_⟩
    · rw [List.map_map]
      rw [ey] at hy
      exact SqL.of hy
    rw [all_id]
    have hy2 := hy0.ex e
    have e2 : decide ((((ys.map fun z => V.ref z.1).length : Nat) : Int) ≤ 4) = decide (ys.length ≤ 4) := by
      rw [List.length_map]
      exact le_cast ys.length 4
    refine ⟨_, rfl, l, _, rfl, .inl (SqL.of hy2.1), _, _, rfl, rfl, _, rfl, ifb (fun c1 => ⟨_, rfl, _, rfl, ifb (fun c2 => ?_) (fun c2 => ?_)⟩) (fun c1 => ?_)⟩
    · rw [e2] at c1
      rw [c1, c2] at k
      refine ⟨_, rfl, l, rfl, ⟨_, SqL.of hy2.1⟩, fun D2 hD2 => lc_data (K := K) (a := l) ys (fun y => V.ref y.1) (fun _ => true) (fun y v _ => v = V.ref y.2.1) hD2 (by omega) (SqL.of hy2.1) (fun _ _ _ _ _ h => h) (fun y hy' H' acc e' hy N1 N0 h1 h0 => ?_) (fun H3 vs3 e3 hy3 hp3 => ?_)⟩
      · obtain ⟨t1, t2⟩ := hy2.2 y hy'
        exact ⟨_, _, rfl, SqT.of (e' _ _ t1), rfl, _, _, rfl, _, _, rfl, rfl, rfl, _, rfl, h1 rfl _ _ (Same.refl _) rfl⟩
      rw [filter_true] at hp3
      have ey3 := paired_eq (f := fun (y : Addr × Addr × (List Nat × Nat)) => V.ref y.2.1) hp3
      refine ⟨D2, ys.map fun y => (y.2.1, y.2.2.1), rfl, ⟨?_, fun z hz => ?_⟩, (by rw [List.length_map]; exact hlen), fun z hz => ?_, fun H4 e4 => ?_⟩
      · rw [hy3, ey3, List.map_map]
        rfl
      · obtain ⟨y, hy', rfl⟩ := List.mem_map.mp hz
        exact e3 _ _ (hy2.2 y hy').2
      · obtain ⟨y, hy', rfl⟩ := List.mem_map.mp hz
        exact hzl y hy'
      · rw [List.map_map]
        exact k _ ((e.trans e3).trans e4)
    · rw [e2] at c1
      rw [c1, c2] at k
      exact k _ e
    · rw [e2] at c1
      rw [c1] at k
      exact k _ e
end
end Rn
set_option Elab.async false
set_option maxRecDepth 100000
set_option maxHeartbeats 4000000
set_option linter.unusedVariables false
namespace Rn
open PySem PySem.Spec PyProof.Rows L2
theorem sentIn_at {ns : List Nat} {q : Nat} {f r1 : List Nat} (h : Ut04Neutral.sentIn (ns.drop q) = some (f, r1)) : ∃ m, ns[q]? = some m ∧ q + 1 + m ≤ ns.length ∧ f = (ns.drop (q + 1)).take m ∧ r1 = ns.drop (q + 1 + m) := by
  by_cases hq : q < ns.length
  · rw [List.drop_eq_getElem_cons hq] at h
    replace h : (if (ns.drop (q + 1)).length < ns[q] then none else some ((ns.drop (q + 1)).take ns[q], (ns.drop (q + 1)).drop ns[q])) = some (f, r1) := h
    split at h
    · cases h
    · rename_i hl
      cases h
      rw [List.length_drop] at hl
      exact ⟨ns[q], List.getElem?_eq_getElem hq, by omega, rfl, by rw [List.drop_drop]⟩
  · rw [List.drop_eq_nil_of_le (by omega)] at h
    cases h
theorem formsIn_step {k : Nat} {l : List Nat} {fs : List (List Nat)} {rest : List Nat} (h : Ut04Neutral.formsIn (k + 1) l = some (fs, rest)) : ∃ f r1 fr, Ut04Neutral.sentIn l = some (f, r1) ∧ Ut04Neutral.formsIn k r1 = some (fr, rest) ∧ fs = f :: fr := by
  unfold Ut04Neutral.formsIn at h
  cases hs : Ut04Neutral.sentIn l with
  | none =>
    rw [hs] at h
    cases h
  | some x =>
    rw [hs] at h
    replace h : (Ut04Neutral.formsIn k x.2).map (fun y => (x.1 :: y.1, y.2)) = some (fs, rest) := h
    cases hf : Ut04Neutral.formsIn k x.2 with
    | none =>
      rw [hf] at h
      cases h
    | some y =>
      rw [hf] at h
      cases h
      exact ⟨x.1, x.2, y.1, rfl, hf, rfl⟩
theorem targetsIn_step {k : Nat} {l : List Nat} {ts : List (List Nat × Nat)} {rest : List Nat} (h : Ut04Neutral.targetsIn (k + 1) l = some (ts, rest)) : ∃ f c r1 tr, Ut04Neutral.sentIn l = some (f, c :: r1) ∧ Ut04Neutral.targetsIn k r1 = some (tr, rest) ∧ ts = (f, c) :: tr := by
  unfold Ut04Neutral.targetsIn at h
  cases hs : Ut04Neutral.sentIn l with
  | none =>
    rw [hs] at h
    cases h
  | some x =>
    rw [hs] at h
    obtain ⟨f, r⟩ := x
    cases r with
    | nil => cases h
    | cons c m =>
      replace h : (Ut04Neutral.targetsIn k m).map (fun y => ((f, c) :: y.1, y.2)) = some (ts, rest) := h
      cases hf : Ut04Neutral.targetsIn k m with
      | none =>
        rw [hf] at h
        cases h
      | some y =>
        rw [hf] at h
        cases h
        exact ⟨f, c, m, y.1, rfl, hf, rfl⟩
section
variable {P : Program} {w : World} {K : PySem.W.Frag} {mg : Str → Option Value} {base : Heap}
def sp_read_source_forms (T : Txt K mg) : Sp := fun vs H Q _ => ∃ (r a : Addr) (p : Nat) (ns : List Nat) (n : Nat) (fs : List (List Nat)) (rest : List Nat), vs = [.ref r] ∧ RdAt T H r a (p : Int) ∧ SqL K H a (vI ns) ∧ ns[p]? = some n ∧ Ut04Neutral.formsIn n (ns.drop (p + 1)) = some (fs, rest) ∧ n ≤ 1000 ∧
  ∀ H' l zs (q : Nat), ExB r H H' → H l = none → RdAt T H' r a (q : Int) → q ≤ ns.length → ns.drop q = rest → FormsAt H' l zs → zs.map (·.2) = fs → Q (.ref l) H'
theorem ok_read_source_forms (T : Txt K mg) : FnOk P w K mg base CX0 3 T.f_read_source_forms T.fd_read_source_forms ["reader"] (sp_read_source_forms T) := by
  have G_NumberReader_take : FnOk P w K mg base CX0 1 _ _ _ _ := ok_NumberReader_take T
  have G_NumberReader_take_row : FnOk P w K mg base CX0 2 _ _ _ _ := ok_NumberReader_take_row T
  refine T.F_read_source_forms.ok sc_read_source_forms (fun vs H Q E h => ?_) (fun cdv A outer s H vs Q E hr h => ?_)
  · obtain ⟨r, a, p, ns, n, fs, rest, rfl, _⟩ := h
    rfl
  · obtain ⟨r, a, p, ns, n, fs, rest, rfl, hR, hS, hn, hf, hn1, k⟩ := h
    obtain ⟨dx0, hR0⟩ := id hR
    have hp : p < ns.length := (List.getElem?_eq_some_iff.mp hn).1
    refine ⟨_, (pss_cons (ps_set (i := 1) sc_read_source_forms.nd rfl (Or.inl rfl) (pe_lst pa_nil))
      (pss_cons (ps_for PassesOwn.never rfl (pi_range1 (by rfl) T.z_range (pa_cons (pe_meth0 (pv 0) T.cl_NumberReader T.m_NumberReader_take G_NumberReader_take (hr.mono (by decide)) T.b_NumberReader_take .nil pass0) pa_nil)) (pg_name (i := 2) sc_read_source_forms.nd rfl (Or.inl rfl))
      (pss_one (ps_expr (pe_bm PySem.F.plainAttrs_list PySem.F.slot_list_append PySem.F.type_list_append mt_append (pv 1) (pa_cons (pe_callTy call_tuple_of (by rfl) T.z_tuple PyProof.Rows.boot_tuple (pa_cons (pe_meth0 (pv 0) T.cl_NumberReader T.m_NumberReader_take_row G_NumberReader_take_row (hr.mono (by decide)) T.b_NumberReader_take_row .nil pass0) pa_nil)) pa_nil)))))
      (pss_one (ps_ret (pv 1))))), ?_⟩
    refine ⟨big (by show 0 ≤ 1000000; decide), fun fl n0 => ?_⟩
    generalize hG0 : upd _ fl _ = H0
    have e0 := nwE hG0 n0
    have h0 := nwP hG0
    have hR0' := e0 _ _ hR0
    refine ⟨_, rfl, r, dx0, _, rfl, hR0', no_NumberReader_take _ _, r, a, p, ns, n, rfl, ⟨dx0, hR0'⟩, e0.seq hS, hn, fun H1 e1 hR1 => ?_⟩
    have nrf : fl ≠ r := ne_of h0 hR0' (by intro z; cases z)
    have h1 := e1 _ _ nrf h0
    have eH1 : ExB r H H1 := fun b o hb hh => e1 b o hb (e0 b o hh)
    refine ⟨_, rfl, by omega, by omega, ?_⟩
    rw [Int.toNat_natCast]
    refine for_it (walk_range (lo := 0) (n := n)) (fun i σ H' => ∃ (q : Nat) (zs : List (Addr × List Nat)) (fr : List (List Nat)) (v2 : Option V), σ = [some (.ref r), some (.ref fl), v2] ∧ ExB r H H' ∧ RdAt T H' r a (q : Int) ∧ q ≤ ns.length ∧ Ut04Neutral.formsIn (n - i) (ns.drop q) = some (fr, rest) ∧ fs = zs.map (·.2) ++ fr ∧ FormsAt H' fl zs ∧ zs.length = i)
      ⟨p + 1, [], fs, none, rfl, eH1, hR1, by omega, hf, rfl, ⟨h1, fun z hz => nomatch hz⟩, rfl⟩ (fun _ _ _ _ _ => trivial) ?_ ?_
    · rintro i x σ H' H2 hi ⟨q, zs, fr, v2, rfl, e5, hRq, hq, hfr, hfs, hz, hzl⟩ ⟨rfl, rfl⟩
      obtain ⟨k1, hk1⟩ : ∃ k1, n - i = k1 + 1 := ⟨n - i - 1, by omega⟩
      rw [hk1] at hfr
      obtain ⟨f, r1, fr', hs, hfr', rfl⟩ := formsIn_step hfr
      obtain ⟨m, hm, hle, rfl, rfl⟩ := sentIn_at hs
      obtain ⟨dxq, hRq'⟩ := id hRq
      have hS2 := SqL.exB e5 hR0 hS
      refine ⟨_, rfl, .inl ⟨rfl, _, SqL.of hz.1⟩, _, rfl, r, dxq, _, rfl, hRq', no_NumberReader_take_row _ _, r, a, q, ns, m, rfl, hRq, hS2, hm, hle, fun H3 l3 e6 n3 hR3 h3 => ?_⟩
      refine ⟨l3, _, rfl, .inl ⟨SqL.of h3, fun t nt => ?_⟩⟩
      generalize hG4 : upd _ t _ = H4
      have e7 := nwE hG4 nt
      have ht := nwP hG4
      obtain ⟨dx3, hR3'⟩ := id hR3
      have hz3 : FormsAt H3 fl zs := hz.exB e6 hRq'
      have hz4 := hz3.ex e7
      refine ⟨fl, _, _, rfl, rfl, hz4.1, bigl (by rw [List.length_map]; omega), ?_⟩
      generalize hG5 : upd H4 fl _ = H5
      have h5 : H5 fl = some (.lst ((zs ++ [(t, (ns.drop (q + 1)).take m)]).map fun z => V.ref z.1)) := by
        rw [← hG5, upd_same, List.map_append]
        rfl
      have e8 : ExB fl H4 H5 := hG5 ▸ ExB.upd
      have nz : ∀ b o, H4 b = some o → (∀ xs, o ≠ .lst xs) → H5 b = some o := fun b o hh hn => e8 b o (ne_of hh hz4.1 (hn _)) hh
      refine ⟨q + 1 + m, zs ++ [(t, (ns.drop (q + 1)).take m)], fr', _, rfl, ?_, ⟨dx3, nz _ _ (e7 _ _ hR3') (by intro _ z; cases z)⟩, hle, ?_, ?_, ⟨h5, ?_⟩, ?_⟩
      · intro b o hb hh
        exact e8 b o (ne_of_none hh n0) (e7 b o (e6 b o hb (e5 b o hb hh)))
      · rw [show n - (i + 1) = k1 by omega]
        exact hfr'
      · rw [hfs, List.map_append, List.append_assoc]
        rfl
      · intro z hz'
        rcases List.mem_append.mp hz' with hz' | hz'
        · exact nz _ _ (hz4.2 z hz') (by intro _ z; cases z)
        · rw [List.mem_singleton.mp hz']
          exact nz _ _ ht (by intro _ z; cases z)
      · rw [List.length_append, List.length_singleton, hzl]
    · rintro σ H' ⟨q, zs, fr, v2, rfl, e5, hRq, hq, hfr, hfs, hz, hzl⟩
      rw [Nat.sub_self] at hfr
      cases hfr
      rw [List.append_nil] at hfs
      exact ⟨_, rfl, k H' fl zs q e5 n0 hRq hq rfl hz hfs.symm⟩
def sp_read_target_forms (T : Txt K mg) : Sp := fun vs H Q _ => ∃ (r a : Addr) (p : Nat) (ns : List Nat) (n : Nat) (ts : List (List Nat × Nat)) (rest : List Nat), vs = [.ref r] ∧ RdAt T H r a (p : Int) ∧ SqL K H a (vI ns) ∧ ns[p]? = some n ∧ Ut04Neutral.targetsIn n (ns.drop (p + 1)) = some (ts, rest) ∧ n ≤ 1000 ∧
  ∀ H' l ys, ExB r H H' → H l = none → PairsAt H' l ys → ys.map (·.2.2) = ts → Q (.ref l) H'
theorem ok_read_target_forms (T : Txt K mg) : FnOk P w K mg base CX0 3 T.f_read_target_forms T.fd_read_target_forms ["reader"] (sp_read_target_forms T) := by
  have G_NumberReader_take : FnOk P w K mg base CX0 1 _ _ _ _ := ok_NumberReader_take T
  have G_NumberReader_take_row : FnOk P w K mg base CX0 2 _ _ _ _ := ok_NumberReader_take_row T
  refine T.F_read_target_forms.ok sc_read_target_forms (fun vs H Q E h => ?_) (fun cdv A outer s H vs Q E hr h => ?_)
  · obtain ⟨r, a, p, ns, n, ts, rest, rfl, _⟩ := h
    rfl
  · obtain ⟨r, a, p, ns, n, ts, rest, rfl, hR, hS, hn, hf, hn1, k⟩ := h
    obtain ⟨dx0, hR0⟩ := id hR
    have hp : p < ns.length := (List.getElem?_eq_some_iff.mp hn).1
    refine ⟨_, (pss_cons (ps_set (i := 1) sc_read_target_forms.nd rfl (Or.inl rfl) (pe_lst pa_nil))
      (pss_cons (ps_for PassesOwn.never rfl (pi_range1 (by rfl) T.z_range (pa_cons (pe_meth0 (pv 0) T.cl_NumberReader T.m_NumberReader_take G_NumberReader_take (hr.mono (by decide)) T.b_NumberReader_take .nil pass0) pa_nil)) (pg_name (i := 2) sc_read_target_forms.nd rfl (Or.inl rfl))
      (pss_cons (ps_set (i := 3) sc_read_target_forms.nd rfl (Or.inl rfl) (pe_callTy call_tuple_of (by rfl) T.z_tuple PyProof.Rows.boot_tuple (pa_cons (pe_meth0 (pv 0) T.cl_NumberReader T.m_NumberReader_take_row G_NumberReader_take_row (hr.mono (by decide)) T.b_NumberReader_take_row .nil pass0) pa_nil)))
      (pss_one (ps_expr (pe_bm PySem.F.plainAttrs_list PySem.F.slot_list_append PySem.F.type_list_append mt_append (pv 1) (pa_cons (pe_tup (pa_cons (pv 3) (pa_cons (pe_meth0 (pv 0) T.cl_NumberReader T.m_NumberReader_take G_NumberReader_take (hr.mono (by decide)) T.b_NumberReader_take .nil pass0) pa_nil))) pa_nil))))))
      (pss_one (ps_ret (pv 1))))), ?_⟩
    refine ⟨big (by show 0 ≤ 1000000; decide), fun fl n0 => ?_⟩
    generalize hG0 : upd _ fl _ = H0
    have e0 := nwE hG0 n0
    have h0 := nwP hG0
    have hR0' := e0 _ _ hR0
    refine ⟨_, rfl, r, dx0, _, rfl, hR0', no_NumberReader_take _ _, r, a, p, ns, n, rfl, ⟨dx0, hR0'⟩, e0.seq hS, hn, fun H1 e1 hR1 => ?_⟩
    have nrf : fl ≠ r := ne_of h0 hR0' (by intro z; cases z)
    have h1 := e1 _ _ nrf h0
    have eH1 : ExB r H H1 := fun b o hb hh => e1 b o hb (e0 b o hh)
    refine ⟨_, rfl, by omega, by omega, ?_⟩
    rw [Int.toNat_natCast]
    refine for_it (walk_range (lo := 0) (n := n)) (fun i σ H' => ∃ (q : Nat) (ys : List (Addr × Addr × (List Nat × Nat))) (tr : List (List Nat × Nat)) (v2 v3 : Option V), σ = [some (.ref r), some (.ref fl), v2, v3] ∧ ExB r H H' ∧ RdAt T H' r a (q : Int) ∧ q ≤ ns.length ∧ Ut04Neutral.targetsIn (n - i) (ns.drop q) = some (tr, rest) ∧ ts = ys.map (·.2.2) ++ tr ∧ PairsAt H' fl ys ∧ ys.length = i)
      ⟨p + 1, [], ts, none, none, rfl, eH1, hR1, by omega, hf, rfl, ⟨h1, fun z hz => nomatch hz⟩, rfl⟩ (fun _ _ _ _ _ => trivial) ?_ ?_
    · rintro i x σ H' H2 hi ⟨q, ys, tr, v2, v3, rfl, e5, hRq, hq, hfr, hfs, hz, hzl⟩ ⟨rfl, rfl⟩
      obtain ⟨k1, hk1⟩ : ∃ k1, n - i = k1 + 1 := ⟨n - i - 1, by omega⟩
      rw [hk1] at hfr
      obtain ⟨f, c, r1, tr', hs, hfr', rfl⟩ := targetsIn_step hfr
      obtain ⟨m, hm, hle, rfl, hr1⟩ := sentIn_at hs
      obtain ⟨dxq, hRq'⟩ := id hRq
      have hS2 := SqL.exB e5 hR0 hS
      have hq2 : q + 1 + m < ns.length := by
        by_cases hc : q + 1 + m < ns.length
        · exact hc
        · rw [List.drop_eq_nil_of_le (by omega)] at hr1
          cases hr1
      have hat : ns[q + 1 + m]? = some c := by
        rw [List.drop_eq_getElem_cons hq2] at hr1
        rw [List.getElem?_eq_getElem hq2, ← (List.cons.inj hr1).1]
      have hrest : r1 = ns.drop (q + 1 + m + 1) := by
        rw [List.drop_eq_getElem_cons hq2] at hr1
        exact (List.cons.inj hr1).2
      refine ⟨_, rfl, r, dxq, _, rfl, hRq', no_NumberReader_take_row _ _, r, a, q, ns, m, rfl, hRq, hS2, hm, hle, fun H3 l3 e6 n3 hR3 h3 => ?_⟩
      refine ⟨l3, _, rfl, .inl ⟨SqL.of h3, fun t nt => ?_⟩⟩
      generalize hG4 : upd _ t _ = H4
      have e7 := nwE hG4 nt
      have ht := nwP hG4
      obtain ⟨dx3, hR3'⟩ := id hR3
      have hz3 : PairsAt H3 fl ys := hz.exB e6 hRq'
      have hz4 := hz3.ex e7
      have hR4' := e7 _ _ hR3'
      have hS4 : SqL K H4 a (vI ns) := e7.seq (SqL.exB e6 hRq' hS2)
      refine ⟨_, rfl, .inl ⟨rfl, _, SqL.of hz4.1⟩, _, rfl, _, rfl, r, dx3, _, rfl, hR4', no_NumberReader_take _ _, r, a, q + 1 + m, ns, c, rfl, ⟨dx3, hR4'⟩, hS4, hat, fun H5 e8 hR5 => ?_⟩
      refine ⟨big (by show 2 ≤ 1000000; decide), fun pt npt => ?_⟩
      generalize hG6 : upd _ pt _ = H6
      have e9 := nwE hG6 npt
      have hpt := nwP hG6
      have hz6 := (hz4.exB e8 hR4').ex e9
      have ht5 := e8 _ _ (ne_of ht hR4' (by intro z; cases z)) ht
      have ht6 := e9 _ _ ht5
      refine ⟨fl, _, _, rfl, rfl, hz6.1, bigl (by rw [List.length_map]; omega), ?_⟩
      generalize hG7 : upd H6 fl _ = H7
      have h7 : H7 fl = some (.lst ((ys ++ [(pt, t, ((ns.drop (q + 1)).take m, c))]).map fun z => V.ref z.1)) := by
        rw [← hG7, upd_same, List.map_append]
        rfl
      have e10 : ExB fl H6 H7 := hG7 ▸ ExB.upd
      have nz : ∀ b o, H6 b = some o → (∀ xs, o ≠ .lst xs) → H7 b = some o := fun b o hh hn => e10 b o (ne_of hh hz6.1 (hn _)) hh
      obtain ⟨dx5, hR5'⟩ := id hR5
      refine ⟨q + 1 + m + 1, ys ++ [(pt, t, ((ns.drop (q + 1)).take m, c))], tr', _, _, rfl, ?_, ⟨dx5, nz _ _ (e9 _ _ hR5') (by intro _ z; cases z)⟩, hq2, ?_, ?_, ⟨h7, ?_⟩, ?_⟩
      · intro b o hb hh
        exact e10 b o (ne_of_none hh n0) (e9 b o (e8 b o hb (e7 b o (e6 b o hb (e5 b o hb hh)))))
      · rw [show n - (i + 1) = k1 by omega, ← hrest]
        exact hfr'
      · rw [hfs, List.map_append, List.append_assoc]
        rfl
      · intro y hy
        rcases List.mem_append.mp hy with hy | hy
        · exact ⟨nz _ _ (hz6.2 y hy).1 (by intro _ z; cases z), nz _ _ (hz6.2 y hy).2 (by intro _ z; cases z)⟩
        · rw [List.mem_singleton.mp hy]
          exact ⟨nz _ _ hpt (by intro _ z; cases z), nz _ _ ht6 (by intro _ z; cases z)⟩
      · rw [List.length_append, List.length_singleton, hzl]
    · rintro σ H' ⟨q, ys, tr, v2, v3, rfl, e5, hRq, hq, hfr, hfs, hz, hzl⟩
      rw [Nat.sub_self] at hfr
      cases hfr
      rw [List.append_nil] at hfs
      exact ⟨_, rfl, k H' fl ys e5 n0 hz hfs.symm⟩
end
end Rn
set_option Elab.async false
set_option maxRecDepth 100000
set_option maxHeartbeats 4000000
set_option linter.unusedVariables false
namespace Rn
open PySem PySem.Spec PyProof.Rows L2
/-! ### what fits -/
def srcFit (fs : List (List Nat)) : Bool := decide (1 ≤ fs.length) && (decide (fs.length ≤ 3) && formsOk fs)
def tgtFit (ts : List (List Nat × Nat)) : Bool := decide (ts.length ≤ 4) && ((ts.all fun t => decide (t.2 ≤ 2)) && formsOk (ts.map (·.1)))
def Unfit (s : List (List Nat)) (t : List (List Nat × Nat)) : Prop := s = [] ∨ 3 < s.length ∨ 4 < t.length ∨ s.all Ut04.formOk = false ∨ (t.all fun x => Ut04.formOk x.1 && decide (x.2 ≤ 2)) = false ∨ (t.map fun x => x.1).eraseDups.length ≠ t.length ∨ s.eraseDups.length ≠ s.length
theorem all_and {α : Type} (p q : α → Bool) : ∀ l : List α, (l.all fun x => p x && q x) = (l.all p && l.all q)
  | [] => rfl
  | x :: l => by
    rw [List.all_cons, List.all_cons, List.all_cons, all_and p q l]
    cases p x <;> cases q x <;> cases l.all p <;> cases l.all q <;> rfl
theorem fit_iff (s : List (List Nat)) (t : List (List Nat × Nat)) : (srcFit s && tgtFit t) = true ↔ ¬ Unfit s t := by
  unfold srcFit tgtFit formsOk Unfit
  have e1 : (t.all fun x => Ut04.formOk x.1 && decide (x.2 ≤ 2)) = ((t.map (·.1)).all Ut04.formOk && t.all fun x => decide (x.2 ≤ 2)) := by
    rw [all_and, List.all_map]
    rfl
  rw [e1]
  simp only [Bool.and_eq_true, decide_eq_true_eq, not_or, Bool.not_eq_false, ne_eq, Decidable.not_not, List.length_map, Nat.not_lt]
  constructor
  · rintro ⟨⟨h1, h2, h3, h4⟩, h5, h6, h7, h8⟩
    exact ⟨fun e => by rw [e] at h1; simp at h1, h2, h5, h4, ⟨h8, h6⟩, h7, h3⟩
  · rintro ⟨h1, h2, h3, h4, ⟨h5, h6⟩, h7, h8⟩
    refine ⟨⟨?_, h2, h8, h4⟩, h3, h6, h7, h5⟩
    cases s with
    | nil => exact absurd rfl h1
    | cons _ _ => rw [List.length_cons]; omega
theorem nodup_of_dups {l : List (List Nat)} (h : l.eraseDups.length = l.length) : l.Nodup := by
  have go : ∀ (m acc : List (List Nat)), acc.Nodup → (m.foldl addF acc).length = acc.length + m.length → (acc ++ m).Nodup := by
    intro m
    induction m with
    | nil => intro acc h _; rw [List.append_nil]; exact h
    | cons f m ih =>
      intro acc ha he
      rw [List.foldl_cons, List.length_cons] at he
      have h1 := fold_len m (addF acc f)
      have h2 := addF_len acc f
      have h3 : (addF acc f).length = acc.length + 1 := by omega
      have h4 : addF acc f = acc ++ [f] := by
        unfold addF at h3 ⊢
        split
        · rename_i hc
          rw [if_pos hc] at h3
          omega
        · rfl
      have h5 := ih (acc ++ [f]) (h4 ▸ addF_nodup ha) (by rw [← h4]; omega)
      rw [List.append_assoc] at h5
      exact h5
  have := go l [] List.nodup_nil (by
    have e : l.foldl addF [] = l.eraseDups := keysOf_eq l
    rw [e, h]
    simp)
  simpa using this
theorem thOk_of {s : List (List Nat)} {t : List (List Nat × Nat)} (n : Nat) (h : (srcFit s && tgtFit t) = true) : ThOk ⟨n, s, t⟩ := by
  unfold srcFit tgtFit formsOk at h
  simp only [Bool.and_eq_true, decide_eq_true_eq] at h
  obtain ⟨⟨h1, h2, h3, h4⟩, h5, h6, h7, h8⟩ := h
  exact ⟨nodup_of_dups h7, fun x hx => of_decide_eq_true (List.all_eq_true.mp h6 x hx), h2, h5, fun f hf => List.all_eq_true.mp h4 f hf, fun x hx => List.all_eq_true.mp h8 x.1 (List.mem_map.mpr ⟨x, hx, rfl⟩)⟩
section
variable {P : Program} {w : World} {K : PySem.W.Frag} {mg : Str → Option Value} {base : Heap}
theorem nl_reader (T : Txt K mg) (a b : V) : (fs_NumberReader a b).lookup ("source_forms" : Str) = none := (lk_past (by decide +kernel)).trans ((lk_past (by decide +kernel)).trans rfl)
end
end Rn
set_option Elab.async false
set_option maxRecDepth 100000
set_option maxHeartbeats 4000000
set_option linter.unusedVariables false
namespace Rn
open PySem PySem.Spec PyProof.Rows L2
theorem DGet.tf {H : Hp} {a b : Addr} {o : Obj} {kvs : List (List Key × V)} {k : List Key} (e : H a = some (.frz o (.dT kvs))) (eb : H b = some (.tup (k.map kV))) : DGet H a (.ref b) (valV kvs k) := .inr ⟨kvs, k, b, .inr ⟨o, e⟩, rfl, eb, rfl⟩
theorem find_at {l : List (List Nat × Nat)} {i : Nat} {z : List Nat × Nat} (nd : (l.map (·.1)).Nodup) (h : l[i]? = some z) : (l.find? fun x => decide (x.1 = z.1)) = some z := by
  induction l generalizing i with
  | nil => simp at h
  | cons x l ih =>
    rw [List.map_cons, List.nodup_cons] at nd
    rw [List.find?_cons]
    cases i with
    | zero =>
      have e : x = z := by simpa using h
      rw [e, decide_eq_true rfl]
    | succ i =>
      have h' : l[i]? = some z := by simpa using h
      have hm : z.1 ∈ l.map (·.1) := List.mem_map.mpr ⟨z, List.mem_of_getElem? h', rfl⟩
      rw [decide_eq_false (fun (q : x.1 = z.1) => nd.1 (q ▸ hm))]
      exact ih nd.2 h'
/-- the target forms of one standing -/
def ofSt (t : Ut04.Thing) (c : Nat) : List (List Nat) := (t.targets.filter fun x => x.2 == c).map (·.1)
theorem ofSt_len (t : Ut04.Thing) (c : Nat) : (ofSt t c).length ≤ t.targets.length := by
  unfold ofSt
  rw [List.length_map]
  exact List.length_filter_le _ _
theorem best_eq (t : Ut04.Thing) : Ut04.bestOf t = (ofSt t 0 ++ ofSt t 1).head? := by
  unfold Ut04.bestOf ofSt
  rw [List.head?_append, List.head?_map, List.head?_map, List.head?_filter, List.head?_filter]
  cases t.targets.find? (fun x => x.2 == 0) with
  | some x => rfl
  | none => rfl
theorem int_eq (a b : Nat) : decide (V.int (a : Int) = V.int (b : Int)) = (a == b) := by
  by_cases c : a = b
  · rw [c, decide_eq_true rfl]
    exact (beq_self_eq_true b).symm
  · rw [decide_eq_false (fun q => by injection q with q; omega)]
    exact (beq_eq_false_iff_ne.mpr c).symm
theorem ofSt_mem {t : Ut04.Thing} {c : Nat} {f : List Nat} (ok : ThOk t) (h : f ∈ ofSt t c) : f.length ≤ 4 := by
  obtain ⟨x, hx, rfl⟩ := List.mem_map.mp h
  exact (formOk_len (ok.tf x (List.mem_filter.mp hx).1)).2
section
variable {P : Program} {w : World} {K : PySem.W.Frag} {mg : Str → Option Value} {base : Heap}
def sp_Thing_target_forms_that_are (T : Txt K mg) : Sp := fun vs H Q _ => ∃ (a : Addr) (t : Ut04.Thing) (c : Nat), vs = [.ref a, .int (c : Int)] ∧ ThingAt T H a t ∧
  ∀ H' p zs, Same H H' → H p = none → FormsAt H' p zs → zs.map (·.2) = ofSt t c → Q (.ref p) H'
theorem ok_Thing_target_forms_that_are (T : Txt K mg) : FnOk P w K mg base CX0 1 T.f_Thing_target_forms_that_are T.fd_Thing_target_forms_that_are ["self", "standing"] (sp_Thing_target_forms_that_are T) := by
  refine T.F_Thing_target_forms_that_are.ok sc_Thing_target_forms_that_are (fun vs H Q E h => ?_) (fun cdv A outer s H vs Q E hr h => ?_)
  · obtain ⟨a, t, c, rfl, _⟩ := h
    rfl
  · obtain ⟨a, t, c, rfl, ⟨ok, dx, ls, ds, zs0, h1, h2, h3, h4⟩, k⟩ := h
    refine ⟨_, (pss_one (ps_ret (pe_lock (pe_lc (own := [("form", 2)]) (g := (gName 2)) (by rfl) sc_Thing_target_forms_that_are.nd (pi_keys (pe_fld (pv 0) rfl)) (blkOk_by (own := [("form", 2)]) (N := ["self", "standing", "form"]) (sc := defScope s_Thing_target_forms_that_are) (by decide +kernel)) (fun _ _ _ _ _ => (pg_name (i := 2) sc_Thing_target_forms_that_are.nd rfl (Or.inl rfl))) (fun _ _ _ _ _ => (pts_one (pt_cmpR op_eq (pe_dget (hu_of hr) (pe_fldK (K := K) rfl (pv 0) rfl) (pv 2) (fun _ _ => rfl)) (pv 1) (nomark _)))) (fun _ _ _ _ _ => (pv 2)))))), ?_⟩
    refine ⟨ds, _, h4, trivial, fun od => ?_⟩
    generalize hGf : upd H ds _ = Hf
    have hf : Hf ds = some (.frz od (.dT (stK t.targets))) := by rw [← hGf]; exact upd_same
    have e0 : ∀ b o, b ≠ ds → H b = some o → Hf b = some o := fun b o hb hh => by rw [← hGf, upd_ne hb]; exact hh
    have b0 : ∀ b o, b ≠ ds → Hf b = some o → H b = some o := fun b o hb hh => by rw [← hGf, upd_ne hb] at hh; exact hh
    have h1f := e0 _ _ (ne_of h1 h4 (by intro z; cases z)) h1
    refine ⟨_, rfl, a, _, dx, _, _, rfl, h1f, T.cl_Thing, T.n_Thing_standings, lk_Thing_standings _ _ _, ds, od, rfl, .inr ⟨_, hf, fun D hD => lc_it (walk_keysT (d := ds) (o := od) (kvs := stK t.targets))
      (fun i H' => Same Hf H' ∧ ∃ zs : List (Addr × List Nat), FormsAt H' D zs ∧ zs.map (·.2) = ((t.targets.take i).filter fun x => x.2 == c).map (·.1) ∧ zs.length ≤ i)
      ⟨Ex.new hD, [], ⟨upd_same, fun z hz => nomatch hz⟩, rfl, Nat.le_refl _⟩ (fun i H' _ ⟨e5, _⟩ => e5 _ _ hf) ?_ ?_⟩⟩
    · rintro i x H' H2 hi ⟨e5, zs, hz, hm, hle⟩ ⟨rfl, kk, vv, q, hkk, rfl, hq⟩
      obtain ⟨z, hz', ez⟩ := at_map hkk
      injection ez with ez1 ez2
      subst ez1
      have g : DGet H2 ds (.ref q) (valV (stK t.targets) (fK z.1)) := DGet.tf (e5 _ _ hf) hq
      rw [valV_stK, find_at ok.nd hz'] at g
      rw [fK_kV] at hq
      refine ⟨rfl, _, rfl, a, _, dx, _, _, rfl, e5 _ _ h1f, T.cl_Thing, T.n_Thing_standings, lk_Thing_standings _ _ _, _, rfl, ds, _, rfl, g, _, rfl, rfl, _, rfl, ifb (fun c1 => ?_) (fun c1 => ?_)⟩
      · rw [int_eq] at c1
        refine ⟨_, rfl, _, hz.1, bigl (by rw [List.length_map]; have := ok.tn; have : i < (stK t.targets).length := hi; unfold stK at this; rw [List.length_map] at this; omega), ?_⟩
        have nz : ∀ b o, H2 b = some o → (∀ xs, o ≠ .lst xs) → upd H2 D (.lst (zs.map (fun z => V.ref z.1) ++ [V.ref q])) b = some o := fun b o hh hn => by
          rw [upd_ne (ne_of hh hz.1 (hn _))]
          exact hh
        refine ⟨Ex.mut e5 hD, zs ++ [(q, z.1)], ⟨?_, fun y hy => ?_⟩, ?_, ?_⟩
        · rw [upd_same, List.map_append]
          rfl
        · rcases List.mem_append.mp hy with hy | hy
          · exact nz _ _ (hz.2 y hy) (by intro _ z; cases z)
          · rw [List.mem_singleton.mp hy]
            exact nz _ _ hq (by intro _ z; cases z)
        · rw [filter_take hz', if_pos c1, List.map_append, List.map_append, hm]
          rfl
        · rw [List.length_append, List.length_singleton]
          omega
      · rw [int_eq] at c1
        refine ⟨e5, zs, hz, ?_, by omega⟩
        rw [filter_take hz', if_neg (by rw [c1]; decide), List.append_nil, hm]
    · rintro H' ⟨e5, zs, hz, hm, hle⟩
      have ht : t.targets.take (stK t.targets).length = t.targets := by
        unfold stK
        rw [List.length_map, List.take_length]
      rw [ht] at hm
      have hd' := e5 _ _ hf
      have nz : ∀ b o, H' b = some o → (∀ od u, o ≠ .frz od u) → upd H' ds (.dT (stK t.targets)) b = some o := fun b o hh hn => by
        rw [upd_ne (ne_of hh hd' (hn _ _))]
        exact hh
      refine ⟨hd', k _ D zs ?_ ?_ ⟨nz _ _ hz.1 (by intro _ _ z; cases z), fun z hz' => nz _ _ (hz.2 z hz') (by intro _ _ z; cases z)⟩ hm⟩
      · intro b o hh
        by_cases hb : b = ds
        · subst hb
          rw [upd_same]
          rw [h4] at hh
          exact hh
        · rw [upd_ne hb]
          exact e5 _ _ (e0 _ _ hb hh)
      · cases q : H D with
        | none => rfl
        | some o =>
          have : D ≠ ds := fun e => by rw [e, hf] at hD; cases hD
          rw [e0 _ _ this q] at hD
          cases hD
/-! ### best -/
def withNum (us : Us) (n : Nat) : Option (Addr × Ut04.Thing) := us.find? fun u => u.2.number == n
theorem withNum_ths (us : Us) (n : Nat) : ((ths us).find? fun t => t.number == n) = (withNum us n).map (·.2) := by
  unfold ths withNum
  rw [List.find?_map]
  rfl
def sp_thing_with_number (T : Txt K mg) : Sp := fun vs H Q _ => ∃ (a : Addr) (us : Us) (n : Nat), vs = [.ref a, .int (n : Int)] ∧ KeptAt T H a us ∧ (withNum us n = none → Q .non H) ∧ ∀ u, withNum us n = some u → Q (.ref u.1) H
theorem ok_thing_with_number (T : Txt K mg) : FnOk P w K mg base CX0 1 T.f_thing_with_number T.fd_thing_with_number ["terms", "number"] (sp_thing_with_number T) := by
  refine T.F_thing_with_number.ok sc_thing_with_number (fun vs H Q E h => ?_) (fun cdv A outer s H vs Q E hr h => ?_)
  · obtain ⟨a, us, n, rfl, _⟩ := h
    rfl
  · obtain ⟨a, us, n, rfl, hk, k1, k2⟩ := h
    refine ⟨_, (pss_cons (ps_for PassesOwn.never rfl (pi_list (pe_fld (pv 0) rfl)) (pg_name (i := 2) sc_thing_with_number.nd rfl (Or.inl rfl))
      (pss_one (ps_if (pt_cmpR op_eq (pe_fld (pv 2) rfl) (pv 1) (nomark _))
      (pss_one (ps_ret (pv 2)))
      pss_nil)))
      (pss_one (ps_ret pe_non))), ?_⟩
    obtain ⟨dx0, l, fs0, hk1, hk2, hl⟩ := hk
    refine ⟨_, rfl, a, _, dx0, _, _, rfl, hk1, T.cl_TermList, T.n_TermList_kept, hk2, l, rfl, ⟨_, SqL.of hl.1⟩, for_it (walk_list (K := K) (a := l) (xs := us.map fun u => V.ref u.1))
      (fun i σ H' => ∃ v2 : Option V, σ = [some (.ref a), some (.int (n : Int)), v2] ∧ H' = H ∧ withNum (us.take i) n = none)
      ⟨none, rfl, rfl, rfl⟩ (fun i σ H' _ ⟨_, _, e, _⟩ => e ▸ SqL.of hl.1) ?_ ?_⟩
    · rintro i x σ H' H2 hi ⟨v2, rfl, rfl, hn⟩ ⟨rfl, hx⟩
      obtain ⟨u, hu', rfl⟩ := at_map hx
      obtain ⟨_, dxu, ls, ds, zs, g1, _⟩ := hl.2 u (List.mem_of_getElem? hu')
      have hstep : withNum (us.take (i + 1)) n = if (u.2.number == n) = true then some u else none := by
        unfold withNum at hn ⊢
        rw [take_more hu', List.find?_append, hn, List.find?_cons]
        cases u.2.number == n <;> rfl
      refine ⟨_, rfl, u.1, _, dxu, _, _, rfl, g1, T.cl_Thing, T.n_Thing_number, lk_Thing_number _ _ _, _, rfl, rfl, _, rfl, ifb (fun c => ?_) (fun c => ?_)⟩
      · rw [int_eq] at c
        refine ⟨_, rfl, k2 u ?_⟩
        rw [if_pos c] at hstep
        unfold withNum at hstep ⊢
        rw [← List.take_append_drop (i + 1) us, List.find?_append, hstep]
        rfl
      · rw [int_eq] at c
        rw [if_neg (by rw [c]; decide)] at hstep
        exact ⟨_, rfl, rfl, hstep⟩
    · rintro σ H' ⟨v2, rfl, rfl, hn⟩
      rw [List.length_map, List.take_length] at hn
      exact k1 hn
def bsAns (ts : List Ut04.Thing) (n : Nat) : List Int := (Ut04.step ⟨ts, 0, []⟩ (.best n)).2
theorem bs_none {ts : List Ut04.Thing} {n : Nat} (h : (ts.find? fun t => t.number == n) = none) : bsAns ts n = [-2] := by
  unfold bsAns
  simp only [Ut04.step, h]
theorem bs_no {ts : List Ut04.Thing} {n : Nat} {t : Ut04.Thing} (h : (ts.find? fun t => t.number == n) = some t) (hb : Ut04.bestOf t = none) : bsAns ts n = [-6] := by
  unfold bsAns
  simp only [Ut04.step, h, hb]
theorem bs_yes {ts : List Ut04.Thing} {n : Nat} {t : Ut04.Thing} {f : List Nat} (h : (ts.find? fun t => t.number == n) = some t) (hb : Ut04.bestOf t = some f) : bsAns ts n = Ut04.ints (f.length :: f) := by
  unfold bsAns
  simp only [Ut04.step, h, hb]
def sp_tell_best (T : Txt K mg) : Sp := fun vs H Q _ => ∃ (a : Addr) (us : Us) (n : Nat), vs = [.ref a, .int (n : Int)] ∧ KeptAt T H a us ∧ us.length ≤ 8 ∧
  ∀ H' p, Same H H' → H p = none → H' p = some (.lst ((bsAns (ths us) n).map V.int)) → Q (.ref p) H'
theorem ok_tell_best (T : Txt K mg) : FnOk P w K mg base CX0 2 T.f_tell_best T.fd_tell_best ["terms", "number"] (sp_tell_best T) := by
  have G_thing_with_number : FnOk P w K mg base CX0 1 _ _ _ _ := ok_thing_with_number T
  have G_refusal : FnOk P w K mg base CX0 1 _ _ _ _ := ok_refusal T
  have G_spelled : FnOk P w K mg base CX0 1 _ _ _ _ := ok_spelled T
  have G_Thing_target_forms_that_are : FnOk P w K mg base CX0 1 _ _ _ _ := ok_Thing_target_forms_that_are T
  refine T.F_tell_best.ok sc_tell_best (fun vs H Q E h => ?_) (fun cdv A outer s H vs Q E hr h => ?_)
  · obtain ⟨a, us, n, rfl, _⟩ := h
    rfl
  · obtain ⟨a, us, n, rfl, hk, hlen, k⟩ := h
    refine ⟨_, (pss_cons (ps_set (i := 2) sc_tell_best.nd rfl (Or.inl rfl) (pe_call G_thing_with_number (hr.mono (by decide)) rfl T.g_thing_with_number T.F_thing_with_number.kp T.b_thing_with_number .nil pass0 (pa_cons (pv 0) (pa_cons (pv 1) pa_nil))))
      (pss_cons (ps_if (pt_cmpR op_isN (pv 2) pe_non (nomark _))
      (pss_one (ps_ret (pe_call G_refusal (hr.mono (by decide)) rfl T.g_refusal T.F_refusal.kp T.b_refusal .nil pass0 (pa_cons (pe_glob (v := .int 2) rfl T.g_NO_SUCH_THING ⟨_, rfl⟩) pa_nil))))
      pss_nil)
      (pss_cons (ps_set (i := 3) sc_tell_best.nd rfl (Or.inl rfl) (pe_op op_cat (pe_meth (pv 2) T.cl_Thing T.m_Thing_target_forms_that_are G_Thing_target_forms_that_are (hr.mono (by decide)) T.b_Thing_target_forms_that_are .nil pass0 (pa_cons (pe_glob (v := .int 0) rfl T.g_BEST ⟨_, rfl⟩) pa_nil)) (pe_meth (pv 2) T.cl_Thing T.m_Thing_target_forms_that_are G_Thing_target_forms_that_are (hr.mono (by decide)) T.b_Thing_target_forms_that_are .nil pass0 (pa_cons (pe_glob (v := .int 1) rfl T.g_ALLOWED ⟨_, rfl⟩) pa_nil))))
      (pss_cons (ps_if (pt_cmpR op_eq (pe_callB call_len_seq (by rfl) T.z_len PySem.boot_len (pa_cons (pv 3) pa_nil)) pe_int (nomark _))
      (pss_one (ps_ret (pe_call G_refusal (hr.mono (by decide)) rfl T.g_refusal T.F_refusal.kp T.b_refusal .nil pass0 (pa_cons (pe_glob (v := .int 6) rfl T.g_NO_RIGHT_FORM ⟨_, rfl⟩) pa_nil))))
      pss_nil)
      (pss_one (ps_ret (pe_call G_spelled (hr.mono (by decide)) rfl T.g_spelled T.F_spelled.kp T.b_spelled .nil pass0 (pa_cons (pe_ix ix_list (pv 3) pe_int (fun _ _ => rfl)) pa_nil)))))))), ?_⟩
    refine ⟨_, rfl, _, rfl, a, us, n, rfl, hk, fun hn => ?_, fun u hu => ?_⟩
    · refine ⟨_, rfl, rfl, _, rfl, if_true_of (decide_eq_true rfl) ?_⟩
      rw [bs_none (by rw [withNum_ths, hn]; rfl)] at k
      exact ⟨2, rfl, fun H1 p e1 n1 h1 => k H1 p e1 n1 h1⟩
    · refine ⟨_, rfl, rfl, _, rfl, if_false_of (decide_eq_false (by intro z; cases z)) ?_⟩
      have hfi : ((ths us).find? fun t => t.number == n) = some u.2 := by rw [withNum_ths, hu]; rfl
      have hbe := best_eq u.2
      have hth : ThingAt T H u.1 u.2 := by
        obtain ⟨_, _, _, _, _, q3⟩ := hk
        exact q3.2 u (List.mem_of_find?_eq_some hu)
      obtain ⟨_, dxu, ls, ds, zs, g1, _⟩ := id hth
      refine ⟨_, rfl, u.1, dxu, _, rfl, g1, no_Thing_target_forms_that_are _ _ _, u.1, u.2, 0, rfl, hth, fun H1 p1 zs1 e1 n1 f1 m1 => ?_⟩
      refine ⟨_, rfl, u.1, dxu, _, rfl, e1 _ _ g1, no_Thing_target_forms_that_are _ _ _, u.1, u.2, 1, rfl, hth.ex e1, fun H2 p2 zs2 e2 n2 f2 m2 => ?_⟩
      have l1 : zs1.length ≤ 4 := by
        have := congrArg List.length m1
        rw [List.length_map] at this
        have := ofSt_len u.2 0
        have := hth.ok.tn
        omega
      have l2 : zs2.length ≤ 4 := by
        have := congrArg List.length m2
        rw [List.length_map] at this
        have := ofSt_len u.2 1
        have := hth.ok.tn
        omega
      refine cat_step (e2 _ _ f1.1) f2.1 (by rw [List.length_map, List.length_map]; omega) fun p3 H3 e3 n3 h3 => ?_
      have e03 := (e1.trans e2).trans e3
      rw [← List.map_append] at h3
      have hz3 : ∀ z ∈ zs1 ++ zs2, H3 z.1 = some (.tup (vI z.2)) := by
        intro z hz
        rcases List.mem_append.mp hz with hz | hz
        · exact e3 _ _ (e2 _ _ (f1.2 z hz))
        · exact e3 _ _ (f2.2 z hz)
      have hz4 : ∀ z ∈ zs1 ++ zs2, z.2.length ≤ 4 := by
        intro z hz
        rcases List.mem_append.mp hz with hz | hz
        · exact ofSt_mem hth.ok (m1 ▸ List.mem_map.mpr ⟨z, hz, rfl⟩)
        · exact ofSt_mem hth.ok (m2 ▸ List.mem_map.mpr ⟨z, hz, rfl⟩)
      rw [← m1, ← m2, ← List.map_append] at hbe
      generalize zs1 ++ zs2 = zs at h3 hz3 hz4 hbe
      refine ⟨_, rfl, p3, _, rfl, .inl (SqL.of h3), rfl, _, rfl, ?_⟩
      cases zs with
      | nil =>
        refine if_true_of (decide_eq_true rfl) ?_
        rw [bs_no hfi hbe] at k
        exact ⟨6, rfl, fun H4 p e4 n4 h4 => k H4 p (e03.trans e4) (e03.free n4) h4⟩
      | cons z zs =>
        refine if_false_of (decide_eq_false ?_) ?_
        · intro q
          injection q with q
          rw [List.length_map, List.length_cons] at q
          omega
        · have hf4 := hz4 z List.mem_cons_self
          rw [bs_yes hfi (f := z.2) hbe] at k
          refine ⟨_, rfl, p3, _, _, _, rfl, rfl, SqL.of h3, atI_nat (j := 0) rfl, z.1, z.2, rfl, hz3 z List.mem_cons_self, by omega, fun H4 p e4 n4 h4 => k H4 p (e03.trans e4) (e03.free n4) ?_⟩
          rw [h4]
          exact (congrArg (fun x => some (HO.lst x)) (ints_vI _)).symm
end
end Rn
set_option Elab.async false
set_option maxRecDepth 100000
set_option maxHeartbeats 4000000
set_option linter.unusedVariables false
namespace Rn
open PySem PySem.Spec PyProof.Rows L2
section
variable {P : Program} {w : World} {K : PySem.W.Frag} {mg : Str → Option Value} {base : Heap}
/-! ### things -/
def thRow (t : Ut04.Thing) : List Nat := [t.number, t.sources.length, t.targets.length]
def thAns (ts : List Ut04.Thing) : List Int := Ut04.ints (ts.length :: ts.flatMap thRow)
theorem thRows_len : ∀ us : Us, (us.flatMap fun u => thRow u.2).length = 3 * us.length
  | [] => rfl
  | u :: us => by
    rw [List.flatMap_cons, List.length_append, thRows_len us, List.length_cons]
    show 3 + _ = _
    omega
def sp_tell_things (T : Txt K mg) : Sp := fun vs H Q _ => ∃ (a : Addr) (us : Us), vs = [.ref a] ∧ KeptAt T H a us ∧ us.length ≤ 8 ∧
  ∀ H' p, Same H H' → H p = none → H' p = some (.lst ((thAns (ths us)).map V.int)) → Q (.ref p) H'
theorem ok_tell_things (T : Txt K mg) : FnOk P w K mg base CX0 1 T.f_tell_things T.fd_tell_things ["terms"] (sp_tell_things T) := by
  refine T.F_tell_things.ok sc_tell_things (fun vs H Q E h => ?_) (fun cdv A outer s H vs Q E hr h => ?_)
  · obtain ⟨a, us, rfl, _⟩ := h
    rfl
  · obtain ⟨a, us, rfl, hk, hlen, k⟩ := h
    refine ⟨_, (pss_cons (ps_set (i := 1) sc_tell_things.nd rfl (Or.inl rfl) (pe_lst (pa_cons (pe_callB call_len_seq (by rfl) T.z_len PySem.boot_len (pa_cons (pe_fld (pv 0) rfl) pa_nil)) pa_nil)))
      (pss_cons (ps_for PassesOwn.never rfl (pi_list (pe_fld (pv 0) rfl)) (pg_name (i := 2) sc_tell_things.nd rfl (Or.inl rfl))
      (pss_one (ps_set (i := 1) sc_tell_things.nd rfl (Or.inl rfl) (pe_op op_cat (pv 1) (pe_lst (pa_cons (pe_fld (pv 2) rfl) (pa_cons (pe_callB call_len_seq (by rfl) T.z_len PySem.boot_len (pa_cons (pe_fld (pv 2) rfl) pa_nil)) (pa_cons (pe_callB call_len_dT (by rfl) T.z_len PySem.boot_len (pa_cons (pe_fld (pv 2) rfl) pa_nil)) pa_nil))))))))
      (pss_one (ps_ret (pv 1))))), ?_⟩
    obtain ⟨dx0, l, fs0, hk1, hk2, hl⟩ := hk
    refine ⟨_, rfl, a, _, dx0, _, _, rfl, hk1, T.cl_TermList, T.n_TermList_kept, hk2, l, _, rfl, .inl (SqL.of hl.1), big (by show 1 ≤ 1000000; decide), fun p0 n0 => ?_⟩
    generalize hG0 : upd _ p0 _ = H0
    have e0 := nwE hG0 n0
    have h0 := nwP hG0
    rw [List.length_map] at h0
    have hl0 := hl.ex e0
    refine ⟨_, rfl, a, _, dx0, _, _, rfl, e0 _ _ hk1, T.cl_TermList, T.n_TermList_kept, hk2, l, rfl, ⟨_, SqL.of hl0.1⟩, for_it (walk_list (K := K) (a := l) (xs := us.map fun u => V.ref u.1))
      (fun i σ H' => ∃ (p : Addr) (v2 : Option V), σ = [some (.ref a), some (.ref p), v2] ∧ Same H0 H' ∧ H p = none ∧ H' p = some (.lst (vI (us.length :: (us.take i).flatMap fun u => thRow u.2))))
      ⟨p0, none, rfl, Same.refl _, n0, h0⟩ (fun i σ H' _ ⟨_, _, _, e5, _⟩ => SqL.of (e5 _ _ hl0.1)) ?_ ?_⟩
    · rintro i x σ H' H2 hi ⟨p, v2, rfl, e5, np, hp⟩ ⟨rfl, hx⟩
      obtain ⟨u, hu', rfl⟩ := at_map hx
      obtain ⟨_, dxu, ls, ds, zs, g1, g2, g3, g4⟩ := (hl0.2 u (List.mem_of_getElem? hu')).ex e5
      refine ⟨_, rfl, _, rfl, u.1, _, dxu, _, _, rfl, g1, T.cl_Thing, T.n_Thing_number, lk_Thing_number _ _ _, _, rfl, u.1, _, dxu, _, _, rfl, g1, T.cl_Thing, T.n_Thing_source_forms, lk_Thing_source_forms _ _ _, ls, _, rfl, .inl (SqL.of g2.1),
        _, rfl, u.1, _, dxu, _, _, rfl, g1, T.cl_Thing, T.n_Thing_standings, lk_Thing_standings _ _ _, ds, _, rfl, g4, big (by show 3 ≤ 1000000; decide), fun p1 n1 => ?_⟩
      generalize hG1 : upd _ p1 _ = H1
      have e1 := nwE hG1 n1
      have h1 := nwP hG1
      have hlt : (us.take i).length ≤ 8 := by rw [List.length_take]; omega
      refine cat_step (e1 _ _ hp) h1 (by simp only [vI_length, List.length_cons, List.length_nil, thRows_len]; omega) fun p2 H3 e3 n3 h3 => ?_
      refine ⟨p2, some (.ref u.1), rfl, (e5.trans e1).trans e3, (((e0.trans e5).trans e1)).free n3, ?_⟩
      rw [h3, take_more hu', List.flatMap_append, List.flatMap_singleton]
      have r : [V.int (u.2.number : Int), V.int (((zs.map fun z => V.ref z.1).length : Nat) : Int), V.int (((stK u.2.targets).length : Nat) : Int)] = vI (thRow u.2) := by
        unfold thRow stK
        rw [List.length_map, List.length_map, ← g3, List.length_map]
        rfl
      rw [r, ← vI_append]
      rfl
    · rintro σ H' ⟨p, v2, rfl, e5, np, hp⟩
      refine ⟨_, rfl, k H' p (e0.trans e5) np ?_⟩
      rw [hp, List.length_map, List.take_length]
      unfold thAns ths
      rw [ints_vI, List.length_map, List.flatMap_map]
/-! ### named -/
def nmAns (ts : List Ut04.Thing) (f : List Nat) : List Int := if Ut04.formOk f = false then [-1] else
  Ut04.ints (((Ut04.calledSource ts f).length :: Ut04.calledSource ts f) ++ ((Ut04.calledTarget ts f).length :: Ut04.calledTarget ts f) ++ ((Ut04.forbidden ts f).length :: Ut04.forbidden ts f))
def sp_tell_named (T : Txt K mg) : Sp := fun vs H Q _ => ∃ (a wa : Addr) (us : Us) (ws : List Nat), vs = [.ref a, .ref wa] ∧ KeptAt T H a us ∧ us.length ≤ 8 ∧ SqL K H wa (vI ws) ∧ ws.length ≤ 1000 ∧
  ∀ H' p, Same H H' → H p = none → H' p = some (.lst ((nmAns (ths us) ws).map V.int)) → Q (.ref p) H'
theorem ok_tell_named (T : Txt K mg) : FnOk P w K mg base CX0 3 T.f_tell_named T.fd_tell_named ["terms", "words"] (sp_tell_named T) := by
  have G_is_form : FnOk P w K mg base CX0 2 _ _ _ _ := ok_is_form T
  have G_refusal : FnOk P w K mg base CX0 1 _ _ _ _ := ok_refusal T
  have G_things_meant : FnOk P w K mg base CX0 2 _ _ _ _ := ok_things_meant T
  have G_numbered : FnOk P w K mg base CX0 1 _ _ _ _ := ok_numbered T
  have G_Thing_is_served_by : FnOk P w K mg base CX0 1 _ _ _ _ := ok_Thing_is_served_by T
  have G_Thing_forbids : FnOk P w K mg base CX0 1 _ _ _ _ := ok_Thing_forbids T
  refine T.F_tell_named.ok sc_tell_named (fun vs H Q E h => ?_) (fun cdv A outer s H vs Q E hr h => ?_)
  · obtain ⟨a, wa, us, ws, rfl, _⟩ := h
    rfl
  · obtain ⟨a, wa, us, ws, rfl, hk, hlen, hS, hwl, k⟩ := h
    refine ⟨_, (pss_cons (ps_if (pt_not (pt_val (pe_call G_is_form (hr.mono (by decide)) rfl T.g_is_form T.F_is_form.kp T.b_is_form .nil pass0 (pa_cons (pv 1) pa_nil))))
      (pss_one (ps_ret (pe_call G_refusal (hr.mono (by decide)) rfl T.g_refusal T.F_refusal.kp T.b_refusal .nil pass0 (pa_cons (pe_glob (v := .int 1) rfl T.g_NOT_FITTING ⟨_, rfl⟩) pa_nil))))
      pss_nil)
      (pss_cons (ps_set (i := 2) sc_tell_named.nd rfl (Or.inr rfl) (pe_callTy call_tuple_of (by rfl) T.z_tuple PyProof.Rows.boot_tuple (pa_cons (pv 1) pa_nil)))
      (pss_cons (ps_setLc (i := 3) (own := [("thing", 4)]) (g := (gName 4)) (by rfl) sc_tell_named.nd rfl rfl (sw_true rfl rfl rfl (by decide +kernel)) (pi_list (pe_fld (pv 0) rfl)) (blkOk_by (own := [("thing", 4)]) (N := ["terms", "words", "form", "served", "thing", "forbidding"]) (sc := defScope s_tell_named) (by decide +kernel)) (fun _ _ _ _ _ => (pg_name (i := 4) sc_tell_named.nd rfl (Or.inl rfl))) (fun _ _ _ _ _ => (pts_one (pt_val (pe_meth (pv 4) T.cl_Thing T.m_Thing_is_served_by G_Thing_is_served_by (hr.mono (by decide)) T.b_Thing_is_served_by .nil pass0 (pa_cons (pv 2) pa_nil))))) (fun _ _ _ _ _ => (pv 4)))
      (pss_cons (ps_setLc (i := 5) (own := [("thing", 4)]) (g := (gName 4)) (by rfl) sc_tell_named.nd rfl rfl (sw_true rfl rfl rfl (by decide +kernel)) (pi_list (pe_fld (pv 0) rfl)) (blkOk_by (own := [("thing", 4)]) (N := ["terms", "words", "form", "served", "thing", "forbidding"]) (sc := defScope s_tell_named) (by decide +kernel)) (fun _ _ _ _ _ => (pg_name (i := 4) sc_tell_named.nd rfl (Or.inl rfl))) (fun _ _ _ _ _ => (pts_one (pt_val (pe_meth (pv 4) T.cl_Thing T.m_Thing_forbids G_Thing_forbids (hr.mono (by decide)) T.b_Thing_forbids .nil pass0 (pa_cons (pv 2) pa_nil))))) (fun _ _ _ _ _ => (pv 4)))
      (pss_one (ps_ret (pe_op op_cat (pe_op op_cat (pe_call G_numbered (hr.mono (by decide)) rfl T.g_numbered T.F_numbered.kp T.b_numbered .nil pass0 (pa_cons (pe_call G_things_meant (hr.mono (by decide)) rfl T.g_things_meant T.F_things_meant.kp T.b_things_meant .nil pass0 (pa_cons (pv 0) (pa_cons (pv 2) pa_nil))) pa_nil)) (pe_call G_numbered (hr.mono (by decide)) rfl T.g_numbered T.F_numbered.kp T.b_numbered .nil pass0 (pa_cons (pv 3) pa_nil))) (pe_call G_numbered (hr.mono (by decide)) rfl T.g_numbered T.F_numbered.kp T.b_numbered .nil pass0 (pa_cons (pv 5) pa_nil))))))))), ?_⟩
    refine ⟨_, rfl, wa, ws, rfl, .inl hS, hwl, fun H0 e0 => ⟨_, rfl, ?_⟩⟩
    unfold nmAns at k
    cases hfo : Ut04.formOk ws with
    | false =>
      rw [if_pos hfo] at k
      exact ⟨1, rfl, fun H1 p e1 n1 h1 => k H1 p (e0.trans e1) (e0.free n1) h1⟩
    | true =>
      rw [if_neg (by rw [hfo]; decide)] at k
      refine ⟨_, rfl, wa, _, rfl, .inl ⟨e0.seq hS, fun t nt => ?_⟩⟩
      generalize hG1 : upd _ t _ = H1
      have e1 := nwE hG1 nt
      have ht := nwP hG1
      have e01 := e0.trans e1
      obtain ⟨dx0, l, fs0, hk1, hk2, hl⟩ := hk.ex e01
      have kp : ∀ {H'}, Same H1 H' → KeptAt T H' a us := fun e => ⟨dx0, l, fs0, e _ _ hk1, hk2, hl.ex e⟩
      refine ⟨_, rfl, a, _, dx0, _, _, rfl, hk1, T.cl_TermList, T.n_TermList_kept, hk2, l, rfl, ⟨_, SqL.of hl.1⟩, fun D hD => lc_data (K := K) (a := l) us (fun u => V.ref u.1) (fun u => served u.2 ws) (fun u y _ => y = V.ref u.1) hD (by omega) (SqL.of hl.1) (fun _ _ _ _ _ h => h) (fun u hu H' acc e hy N1 N0 h1 h0 => ?_) (fun H2 ys e2 hy hp => ?_)⟩
      · have th := (hl.2 u hu).ex e
        obtain ⟨_, dx, ls, ds, zs, g1, _⟩ := id th
        refine ⟨rfl, _, rfl, u.1, dx, _, rfl, g1, no_Thing_is_served_by _ _ _, _, rfl, u.1, t, u.2, ws, rfl, th, e _ _ ht, _, rfl, ifb (fun c => ⟨_, rfl, h1 c _ _ (Same.refl _) rfl⟩) (fun c => h0 c _ (Same.refl _))⟩
      have t2 : ThingsAt T H2 D (us.filter fun u => served u.2 ws) := by
        refine ⟨?_, fun u hu => (hl.2 u (List.mem_filter.mp hu).1).ex e2⟩
        rw [hy, paired_eq (f := fun (u : Addr × Ut04.Thing) => V.ref u.1) hp]
      have hl2 := hl.ex e2
      refine ⟨_, rfl, a, _, dx0, _, _, rfl, e2 _ _ hk1, T.cl_TermList, T.n_TermList_kept, hk2, l, rfl, ⟨_, SqL.of hl2.1⟩, fun D2 hD2 => lc_data (K := K) (a := l) us (fun u => V.ref u.1) (fun u => forb u.2 ws) (fun u y _ => y = V.ref u.1) hD2 (by omega) (SqL.of hl2.1) (fun _ _ _ _ _ h => h) (fun u hu H' acc e hy N1 N0 h1 h0 => ?_) (fun H3 ys3 e3 hy3 hp3 => ?_)⟩
      · have th := (hl2.2 u hu).ex e
        obtain ⟨_, dx, ls, ds, zs, g1, _⟩ := id th
        refine ⟨rfl, _, rfl, u.1, dx, _, rfl, g1, no_Thing_forbids _ _ _, _, rfl, u.1, t, u.2, ws, rfl, th, e _ _ (e2 _ _ ht), _, rfl, ifb (fun c => ⟨_, rfl, h1 c _ _ (Same.refl _) rfl⟩) (fun c => h0 c _ (Same.refl _))⟩
      have t3 : ThingsAt T H3 D2 (us.filter fun u => forb u.2 ws) := by
        refine ⟨?_, fun u hu => (hl2.2 u (List.mem_filter.mp hu).1).ex e3⟩
        rw [hy3, paired_eq (f := fun (u : Addr × Ut04.Thing) => V.ref u.1) hp3]
      have e13 := e2.trans e3
      have f8 : ∀ p : Addr × Ut04.Thing → Bool, (us.filter p).length ≤ 8 := fun p => Nat.le_trans (List.length_filter_le _ _) hlen
      refine ⟨_, rfl, _, rfl, a, t, us, ws, rfl, kp e13, hlen, e13 _ _ ht, fun H4 l4 e4 n4 t4 => ?_⟩
      refine ⟨l4, _, rfl, t4, Nat.le_trans (f8 _) (by decide), fun H5 p5 e5 n5 h5 => ?_⟩
      refine ⟨_, rfl, D, _, rfl, t2.ex ((e3.trans e4).trans e5), Nat.le_trans (f8 _) (by decide), fun H6 p6 e6 n6 h6 => ?_⟩
      refine cat_step (e6 _ _ h5) h6 (by simp only [List.length_cons, nums_eq, vI_length, List.length_map]; have := f8 fun u => meant u.2 ws; have := f8 fun u => served u.2 ws; omega) fun p7 H7 e7 n7 h7 => ?_
      refine ⟨_, rfl, D2, _, rfl, t3.ex (((e4.trans e5).trans e6).trans e7), Nat.le_trans (f8 _) (by decide), fun H8 p8 e8 n8 h8 => ?_⟩
      refine cat_step (e8 _ _ h7) h8 (by simp only [List.length_append, List.length_cons, nums_eq, vI_length, List.length_map]; have := f8 fun u => meant u.2 ws; have := f8 fun u => served u.2 ws; have := f8 fun u => forb u.2 ws; omega) fun p9 H9 e9 n9 h9 => ?_
      have e08 := (((e01.trans e13).trans e4).trans e5).trans ((e6.trans e7).trans e8)
      refine k H9 p9 (e08.trans e9) (e08.free n9) ?_
      rw [h9, ints_vI, called_src, called_tgt, called_forb]
      simp only [vI_append, vI_cons, nums_eq, List.length_map, List.append_assoc, List.cons_append, List.nil_append]
end
end Rn
set_option Elab.async false
set_option maxRecDepth 100000
set_option maxHeartbeats 4000000
set_option linter.unusedVariables false
namespace Rn
open PySem PySem.Spec PyProof.Rows L2
/-- all but what E names is kept -/
def ExE (E : List Addr) (H H' : Hp) : Prop := ∀ x o, x ∉ E → H x = some o → H' x = some o
theorem ExE.of {E : List Addr} {H H' : Hp} (e : Same H H') : ExE E H H' := fun x o _ h => e x o h
theorem ExE.trans {E : List Addr} {H H1 H2 : Hp} (a : ExE E H H1) (b : ExE E H1 H2) : ExE E H H2 := fun x o hx h => b x o hx (a x o hx h)
theorem ExE.mono {E F : List Addr} {H H' : Hp} (e : ExE E H H') (h : ∀ x ∈ E, x ∈ F) : ExE F H H' := fun x o hx hh => e x o (fun q => hx (h x q)) hh
theorem ExE.ofB {a : Addr} {H H' : Hp} {E : List Addr} (e : ExB a H H') (h : a ∈ E) : ExE E H H' := fun x o hx hh => e x o (fun q => hx (q ▸ h)) hh
theorem ExE.free {E : List Addr} {H H' : Hp} (e : ExE E H H') {p : Addr} (h : H' p = none) (hp : p ∉ E) : H p = none := by
  cases q : H p with
  | none => rfl
  | some o =>
    rw [e p o hp q] at h
    cases h
section
variable {P : Program} {w : World} {K : PySem.W.Frag} {mg : Str → Option Value} {base : Heap}
/-- the list's own state: C is what never changes again; E names what changes or may change -/
structure StAt (T : Txt K mg) (H : Hp) (a b : Addr) (E : List Addr) (g : Ut04.House) : Prop where
  ina : a ∈ E
  inb : b ∈ E
  dom : ∀ x ∈ E, ∃ o, H x = some o ∧ ∀ xs, o ≠ .tup xs
  at_ : ∃ (C : Hp) (dx l : Addr) (us : Us) (olds : List (Addr × Us)),
    H a = some (.ins T.C_TermList dx (fs_TermList (.ref l) (.ref b) (.int (g.given : Int)))) ∧ H b = some (.lst (olds.map fun o => V.ref o.1)) ∧
    Same C H ∧ (∀ x ∈ E, C x = none) ∧ ThingsAt T C l us ∧ (∀ o ∈ olds, ThingsAt T C o.1 o.2) ∧ ths us = g.things ∧ (olds.map fun o => ths o.2) = g.old.reverse
theorem StAt.fresh {T : Txt K mg} {H : Hp} {a b : Addr} {E : List Addr} {g : Ut04.House} (h : StAt T H a b E g) {p : Addr} (hp : H p = none) : p ∉ E := by
  intro q
  obtain ⟨o, ho, _⟩ := h.dom p q
  rw [hp] at ho
  cases ho
theorem StAt.ex {T : Txt K mg} {H H' : Hp} {a b : Addr} {E : List Addr} {g : Ut04.House} (e : Same H H') (h : StAt T H a b E g) : StAt T H' a b E g := by
  obtain ⟨C, dx, l, us, olds, h1, h2, h3, h4, h5, h6, h7, h8⟩ := h.at_
  refine ⟨h.ina, h.inb, fun x hx => ?_, C, dx, l, us, olds, e _ _ h1, e _ _ h2, h3.trans e, h4, h5, h6, h7, h8⟩
  obtain ⟨o, ho, hn⟩ := h.dom x hx
  exact ⟨o, e _ _ ho, hn⟩
theorem StAt.kept {T : Txt K mg} {H : Hp} {a b : Addr} {E : List Addr} {g : Ut04.House} (h : StAt T H a b E g) : ∃ us, KeptAt T H a us ∧ ths us = g.things := by
  obtain ⟨C, dx, l, us, olds, h1, h2, h3, h4, h5, h6, h7, h8⟩ := h.at_
  exact ⟨us, ⟨dx, l, _, h1, lk_TermList_kept _ _ _, h5.ex h3⟩, h7⟩
theorem ths_len (us : Us) : (ths us).length = us.length := List.length_map _
/-- something that E names, but neither the object nor its pile, changes -/
theorem StAt.mut {T : Txt K mg} {H H' : Hp} {a b : Addr} {E F : List Addr} {g : Ut04.House} (h : StAt T H a b E g) (e : ExE F H H') (hF : ∀ x ∈ F, x ∈ E ∧ x ≠ a ∧ x ≠ b ∧ ∃ o, H' x = some o ∧ ∀ xs, o ≠ .tup xs) : StAt T H' a b E g := by
  obtain ⟨C, dx, l, us, olds, h1, h2, h3, h4, h5, h6, h7, h8⟩ := h.at_
  have na : a ∉ F := fun q => (hF a q).2.1 rfl
  have nb : b ∉ F := fun q => (hF b q).2.2.1 rfl
  refine ⟨h.ina, h.inb, fun x hx => ?_, C, dx, l, us, olds, e _ _ na h1, e _ _ nb h2, fun x o hx => e x o (fun q => ?_) (h3 x o hx), h4, h5, h6, h7, h8⟩
  · by_cases q : x ∈ F
    · exact (hF x q).2.2.2
    · obtain ⟨o, ho, hn⟩ := h.dom x hx
      exact ⟨o, e _ _ q ho, hn⟩
  · rw [h4 x (hF x q).1] at hx
    cases hx
/-! ### a new list -/
def sp_TermList_init (T : Txt K mg) : Sp := fun vs H Q _ => ∃ (p dx : Addr), vs = [.ref p] ∧ H p = some (.ins T.C_TermList dx []) ∧
  ∀ (H' : Hp) (l b : Addr), H' p = some (.ins T.C_TermList dx (fs_TermList (.ref l) (.ref b) (.int 0))) → H' l = some (.lst []) → H' b = some (.lst []) → H l = none → H b = none → l ≠ b → ExB p H H' → Q .non H'
theorem ok_TermList_init (T : Txt K mg) : FnOk P w K mg base CX0 1 T.f_TermList_init T.fd_TermList_init ["self"] (sp_TermList_init T) := by
  refine T.F_TermList_init.ok sc_TermList_init (fun vs H Q E h => ?_) (fun cdv A outer s H vs Q E hr h => ?_)
  · obtain ⟨p, dx, rfl, _⟩ := h
    rfl
  · obtain ⟨p, dx, rfl, hp, k⟩ := h
    refine ⟨_, (pss_cons (ps_fld (pv 0) (pe_lst pa_nil) rfl)
      (pss_cons (ps_fld (pv 0) (pe_lst pa_nil) rfl)
      (pss_one (ps_fld (pv 0) pe_int rfl)))), ?_⟩
    refine ⟨big (by show 0 ≤ 1000000; decide), fun l nl => ?_⟩
    generalize hG1 : upd _ l _ = H1
    have e1 := nwE hG1 nl
    have l1 := nwP hG1
    refine ⟨_, rfl, p, T.C_TermList, dx, _, rfl, e1 _ _ hp, T.cl_TermList, T.n_TermList_kept, (by show 0 < 1000; decide), ?_⟩
    generalize hG2 : upd _ p _ = H2
    have e2 : ExB p H1 H2 := hG2 ▸ ExB.upd
    have p2 : H2 p = some (.ins T.C_TermList dx [("kept", .ref l)]) := by rw [← hG2, upd_same, in_TermList_kept]
    have l2 : H2 l = some (.lst []) := e2 _ _ (ne_of l1 (e1 _ _ hp) (by intro z; cases z)) l1
    refine ⟨big (by show 0 ≤ 1000000; decide), fun b nb => ?_⟩
    generalize hG3 : upd _ b _ = H3
    have e3 := nwE hG3 nb
    have b3 := nwP hG3
    have p3 := e3 _ _ p2
    refine ⟨_, rfl, p, T.C_TermList, dx, _, rfl, p3, T.cl_TermList, T.n_TermList_kept_before, (by show 1 < 1000; decide), ?_⟩
    generalize hG4 : upd _ p _ = H4
    have e4 : ExB p H3 H4 := hG4 ▸ ExB.upd
    have p4 : H4 p = some (.ins T.C_TermList dx [("kept", .ref l), ("kept_before", .ref b)]) := by rw [← hG4, upd_same, in_TermList_kept_before]
    refine ⟨_, rfl, p, T.C_TermList, dx, _, rfl, p4, T.cl_TermList, T.n_TermList_numbers_given, (by show 2 < 1000; decide), ?_⟩
    generalize hG5 : upd _ p _ = H5
    have e5 : ExB p H4 H5 := hG5 ▸ ExB.upd
    have p5 : H5 p = some (.ins T.C_TermList dx (fs_TermList (.ref l) (.ref b) (.int 0))) := by rw [← hG5, upd_same, in_TermList_numbers_given]; rfl
    have nbl : l ≠ b := ne_of_none l2 nb
    have nlp : l ≠ p := ne_of l2 p2 (by intro z; cases z)
    have nbp : b ≠ p := ne_of b3 p3 (by intro z; cases z)
    have all : ExB p H H5 := fun x o hx hh => e5 x o hx (e4 x o hx (e3 x o (e2 x o hx (e1 x o hh))))
    refine k H5 l b p5 (e5 _ _ nlp (e4 _ _ nlp (e3 _ _ l2))) (e5 _ _ nbp (e4 _ _ nbp b3)) nl ?_ nbl all
    cases q : H b with
    | none => rfl
    | some o =>
      rw [e2 b o nbp (e1 b o q)] at nb
      cases nb
/-! ### another list instead of the one kept -/
def sp_change_list (T : Txt K mg) : Sp := fun vs H Q _ => ∃ (a b p dx l : Addr) (n : Int) (xs : List V), vs = [.ref a, .ref p] ∧ H a = some (.ins T.C_TermList dx (fs_TermList (.ref l) (.ref b) (.int n))) ∧ H b = some (.lst xs) ∧ xs.length ≤ 1000 ∧
  ∀ H' : Hp, ExE [a, b] H H' → H' a = some (.ins T.C_TermList dx (fs_TermList (.ref p) (.ref b) (.int n))) → H' b = some (.lst (xs ++ [.ref l])) → Q .non H'
theorem ok_change_list (T : Txt K mg) : FnOk P w K mg base CX0 1 T.f_change_list T.fd_change_list ["terms", "things"] (sp_change_list T) := by
  refine T.F_change_list.ok sc_change_list (fun vs H Q E h => ?_) (fun cdv A outer s H vs Q E hr h => ?_)
  · obtain ⟨a, b, p, dx, l, n, xs, rfl, _⟩ := h
    rfl
  · obtain ⟨a, b, p, dx, l, n, xs, rfl, ha, hb, hlen, k⟩ := h
    refine ⟨_, (pss_cons (ps_expr (pe_bm PySem.F.plainAttrs_list PySem.F.slot_list_append PySem.F.type_list_append mt_append (pe_fld (pv 0) rfl) (pa_cons (pe_fld (pv 0) rfl) pa_nil)))
      (pss_one (ps_fld (pv 0) (pv 1) rfl))), ?_⟩
    have nab : a ≠ b := ne_of ha hb (by intro z; cases z)
    refine ⟨_, rfl, a, _, dx, _, _, rfl, ha, T.cl_TermList, T.n_TermList_kept_before, lk_TermList_kept_before _ _ _, .inl ⟨rfl, _, SqL.of hb⟩, _, rfl, a, _, dx, _, _, rfl, ha, T.cl_TermList, T.n_TermList_kept, lk_TermList_kept _ _ _, b, _, _, rfl, rfl, hb, bigl (by omega), ?_⟩
    refine ⟨_, rfl, _, rfl, a, T.C_TermList, dx, _, rfl, (by rw [upd_ne nab]; exact ha), T.cl_TermList, T.n_TermList_kept, (by show 3 < 1000; decide), ?_⟩
    refine k _ (fun x o hx hh => ?_) ?_ ?_
    · rw [upd_ne (fun q => hx (by rw [q]; simp)), upd_ne (fun q => hx (by rw [q]; simp))]
      exact hh
    · rw [upd_same, pt_TermList_kept]
    · rw [upd_ne (Ne.symm nab), upd_same]
/-- the state behind change_list, by a core that holds the new list -/
theorem StAt.changed {T : Txt K mg} {H H' C C' : Hp} {a b p dx l : Addr} {E : List Addr} {g : Ut04.House} {n : Nat} {us vs : Us} {olds : List (Addr × Us)} (h : StAt T H a b E g) (e : ExE [a, b] H H')
    (ha : H' a = some (.ins T.C_TermList dx (fs_TermList (.ref p) (.ref b) (.int (n : Int))))) (hb : H' b = some (.lst ((olds.map fun o => V.ref o.1) ++ [.ref l])))
    (hC : Same C C') (hC' : Same C' H') (hE : ∀ x ∈ E, C' x = none) (hl : ThingsAt T C l us) (ho : ∀ o ∈ olds, ThingsAt T C o.1 o.2) (hu : ths us = g.things) (hold : (olds.map fun o => ths o.2) = g.old.reverse) (hp : ThingsAt T C' p vs) :
    StAt T H' a b E ⟨ths vs, n, g.things :: g.old⟩ := by
  refine ⟨h.ina, h.inb, fun x hx => ?_, C', dx, p, vs, olds ++ [(l, us)], ha, ?_, hC', hE, hp, fun o ho' => ?_, rfl, ?_⟩
  · by_cases q : x = a
    · rw [q]
      exact ⟨_, ha, by intro _ z; cases z⟩
    · by_cases q2 : x = b
      · rw [q2]
        exact ⟨_, hb, by intro _ z; cases z⟩
      · obtain ⟨o, ho, hn⟩ := h.dom x hx
        exact ⟨o, e x o (by simp [q, q2]) ho, hn⟩
  · rw [hb, List.map_append]
    rfl
  · rcases List.mem_append.mp ho' with ho' | ho'
    · exact (ho o ho').ex hC
    · rw [List.mem_singleton.mp ho']
      exact hl.ex hC
  · rw [List.map_append, hold, List.reverse_cons, ← hu]
    rfl
/-! ### gone -/
def sp_drop_thing (T : Txt K mg) : Sp := fun vs H Q _ => ∃ (a b : Addr) (E : List Addr) (g : Ut04.House) (n : Nat), vs = [.ref a, .int (n : Int)] ∧ StAt T H a b E g ∧ g.things.length ≤ 8 ∧ g.old.length ≤ 1000 ∧
  ∀ H' p, ExE [a, b] H H' → H p = none → StAt T H' a b E (Ut04.step g (.gone n)).1 → H' p = some (.lst ((Ut04.step g (.gone n)).2.map V.int)) → Q (.ref p) H'
theorem gone_none {g : Ut04.House} {us : Us} {n : Nat} (hu : ths us = g.things) (h : (us.filter fun u => u.2.number != n).length = us.length) : Ut04.step g (.gone n) = (g, [-2]) := by
  have e : (g.things.any fun t => t.number == n) = false := by
    rw [← hu, any_ths, List.any_eq_false]
    intro u hm q
    have := List.length_filter_eq_length_iff.mp h u hm
    rw [bne, q] at this
    cases this
  unfold Ut04.step
  dsimp only
  rw [if_pos e]
theorem gone_some {g : Ut04.House} {us : Us} {n : Nat} (hu : ths us = g.things) (h : (us.filter fun u => u.2.number != n).length ≠ us.length) : Ut04.step g (.gone n) = (⟨ths (us.filter fun u => u.2.number != n), g.given, g.things :: g.old⟩, Ut04.ints [(us.filter fun u => u.2.number != n).length]) := by
  have e : (g.things.any fun t => t.number == n) = true := by
    rw [← hu, any_ths]
    cases q : us.any fun u => u.2.number == n with
    | true => rfl
    | false =>
      refine absurd (List.length_filter_eq_length_iff.mpr fun u hm => ?_) h
      have := List.any_eq_false.mp q u hm
      rw [Bool.not_eq_true] at this
      rw [bne, this]
      rfl
  unfold Ut04.step Ut04.changes
  dsimp only
  rw [if_neg (by rw [e]; decide), ← hu, filt_ths, ths_len]
theorem ok_drop_thing (T : Txt K mg) : FnOk P w K mg base CX0 2 T.f_drop_thing T.fd_drop_thing ["terms", "number"] (sp_drop_thing T) := by
  have G_change_list : FnOk P w K mg base CX0 1 _ _ _ _ := ok_change_list T
  have G_refusal : FnOk P w K mg base CX0 1 _ _ _ _ := ok_refusal T
  refine T.F_drop_thing.ok sc_drop_thing (fun vs H Q E h => ?_) (fun cdv A outer s H vs Q E hr h => ?_)
  · obtain ⟨a, b, E, g, n, rfl, _⟩ := h
    rfl
  · obtain ⟨a, b, EE, g, n, rfl, hst, h8, hold, k⟩ := h
    obtain ⟨C, dx, l, us, olds, h1, h2, h3, h4, h5, h6, h7, h9⟩ := hst.at_
    have hu8 : us.length ≤ 8 := by rw [← ths_len, h7]; exact h8
    have hol : olds.length ≤ 1000 := by
      have := congrArg List.length h9
      rw [List.length_map, List.length_reverse] at this
      omega
    have hl := h5.ex h3
    refine ⟨_, (pss_cons (ps_setLc (i := 2) (own := [("thing", 3)]) (g := (gName 3)) (by rfl) sc_drop_thing.nd rfl rfl (sw_true rfl rfl rfl (by decide +kernel)) (pi_list (pe_fld (pv 0) rfl)) (blkOk_by (own := [("thing", 3)]) (N := ["terms", "number", "left", "thing"]) (sc := defScope s_drop_thing) (by decide +kernel)) (fun _ _ _ _ _ => (pg_name (i := 3) sc_drop_thing.nd rfl (Or.inl rfl))) (fun _ _ _ _ _ => (pts_one (pt_cmpR op_ne (pe_fldK (K := K) rfl (pv 3) rfl) (pv 1) (nomark _)))) (fun _ _ _ _ _ => (pv 3)))
      (pss_cons (ps_if (pt_cmpR op_eq (pe_callB call_len_seq (by rfl) T.z_len PySem.boot_len (pa_cons (pv 2) pa_nil)) (pe_callB call_len_seq (by rfl) T.z_len PySem.boot_len (pa_cons (pe_fld (pv 0) rfl) pa_nil)) (nomark _))
      (pss_one (ps_ret (pe_call G_refusal (hr.mono (by decide)) rfl T.g_refusal T.F_refusal.kp T.b_refusal .nil pass0 (pa_cons (pe_glob (v := .int 2) rfl T.g_NO_SUCH_THING ⟨_, rfl⟩) pa_nil))))
      pss_nil)
      (pss_cons (ps_expr (pe_call G_change_list (hr.mono (by decide)) rfl T.g_change_list T.F_change_list.kp T.b_change_list .nil pass0 (pa_cons (pv 0) (pa_cons (pv 2) pa_nil))))
      (pss_one (ps_ret (pe_lst (pa_cons (pe_callB call_len_seq (by rfl) T.z_len PySem.boot_len (pa_cons (pv 2) pa_nil)) pa_nil))))))), ?_⟩
    refine ⟨_, rfl, a, _, dx, _, _, rfl, h1, T.cl_TermList, T.n_TermList_kept, lk_TermList_kept _ _ _, l, rfl, ⟨_, SqL.of hl.1⟩, fun D hD => lc_data (K := K) (a := l) us (fun u => V.ref u.1) (fun u => u.2.number != n) (fun u y _ => y = V.ref u.1) hD (by omega) (SqL.of hl.1) (fun _ _ _ _ _ h => h) (fun u hu H' acc e hy N1 N0 h1 h0 => ?_) (fun H2 ys e2 hy hp => ?_)⟩
    · obtain ⟨_, dxu, ls, ds, zs, g1, _⟩ := (hl.2 u hu).ex e
      have en : (!decide (V.int (u.2.number : Int) = V.int (n : Int))) = (u.2.number != n) := by rw [int_eq]; rfl
      exact ⟨rfl, _, rfl, u.1, _, dxu, _, _, rfl, g1, T.cl_Thing, T.n_Thing_number, lk_Thing_number _ _ _, _, rfl, rfl, _, rfl, ifb (fun c => ⟨_, rfl, h1 (en.symm.trans c) _ _ (Same.refl _) rfl⟩) (fun c => h0 (en.symm.trans c) _ (Same.refl _))⟩
    have hy2 : H2 D = some (.lst ((us.filter fun u => u.2.number != n).map fun u => V.ref u.1)) := by rw [hy, paired_eq (f := fun (u : Addr × Ut04.Thing) => V.ref u.1) hp]
    refine ⟨_, rfl, D, _, rfl, .inl (SqL.of hy2), _, rfl, a, _, dx, _, _, rfl, e2 _ _ h1, T.cl_TermList, T.n_TermList_kept, lk_TermList_kept _ _ _, l, _, rfl, .inl (SqL.of (e2 _ _ hl.1)), rfl, _, rfl, ?_⟩
    rw [List.length_map, List.length_map, int_eq]
    refine ifb (fun c => ?_) (fun c => ?_)
    · rw [gone_none h7 (beq_iff_eq.mp c)] at k
      exact ⟨2, rfl, fun H3 p e3 n3 h3 => k H3 p (ExE.of (e2.trans e3)) (e2.free n3) (hst.ex (e2.trans e3)) h3⟩
    · rw [gone_some h7 (beq_eq_false_iff_ne.mp c)] at k
      refine ⟨_, rfl, _, rfl, a, b, D, dx, l, _, _, rfl, e2 _ _ h1, e2 _ _ h2, by rw [List.length_map]; exact hol, fun H3 e3 a3 b3 => ?_⟩
      have hDE : D ∉ EE := hst.fresh hD
      have nDa : D ≠ a := fun q => hDE (q ▸ hst.ina)
      have nDb : D ≠ b := fun q => hDE (q ▸ hst.inb)
      have hD3 : H3 D = some (.lst ((us.filter fun u => u.2.number != n).map fun u => V.ref u.1)) := e3 _ _ (by simp [nDa, nDb]) hy2
      refine ⟨_, rfl, D, _, rfl, .inl (SqL.of hD3), big (by show 1 ≤ 1000000; decide), fun p np => ?_⟩
      generalize hG4 : upd _ p _ = H4
      have e4 := nwE hG4 np
      have p4 := nwP hG4
      have hCD : C D = none := h3.free hD
      have eC : Same C (upd C D (.lst ((us.filter fun u => u.2.number != n).map fun u => V.ref u.1))) := Ex.new hCD
      have all : ExE [a, b] H H4 := fun x o hx hh => e4 x o (e3 x o hx (e2 x o hh))
      refine k H4 p all ?_ ?_ ?_
      · have h3p := e3.free np (fun q => ?_)
        · exact e2.free h3p
        · rcases List.mem_cons.mp q with q | q
          · rw [q, a3] at np
            cases np
          · rw [List.mem_singleton.mp q, b3] at np
            cases np
      · refine hst.changed all (e4 _ _ a3) (e4 _ _ b3) eC (fun x o hx => ?_) (fun x hx => ?_) h5 h6 h7 h9 ⟨upd_same, fun u hu => (h5.2 u (List.mem_filter.mp hu).1).ex eC⟩
        · by_cases q : x = D
          · rw [q, upd_same] at hx
            rw [q, ← hx]
            exact e4 _ _ hD3
          · rw [upd_ne q] at hx
            have nx : x ∉ EE := fun m => by rw [h4 x m] at hx; cases hx
            refine all x o (fun m => nx ?_) (h3 x o hx)
            rcases List.mem_cons.mp m with m | m
            · exact m ▸ hst.ina
            · exact (List.mem_singleton.mp m) ▸ hst.inb
        · rw [upd_ne (fun (q : x = D) => hDE (q ▸ hx))]
          exact h4 x hx
      · rw [p4, List.length_map]
        rfl
/-! ### undo -/
def sp_undo_change (T : Txt K mg) : Sp := fun vs H Q _ => ∃ (a b : Addr) (E : List Addr) (g : Ut04.House), vs = [.ref a] ∧ StAt T H a b E g ∧
  ∀ H' p, ExE [a, b] H H' → H p = none → StAt T H' a b E (Ut04.step g .undo).1 → H' p = some (.lst ((Ut04.step g .undo).2.map V.int)) → Q (.ref p) H'
theorem ok_undo_change (T : Txt K mg) : FnOk P w K mg base CX0 2 T.f_undo_change T.fd_undo_change ["terms"] (sp_undo_change T) := by
  have G_refusal : FnOk P w K mg base CX0 1 _ _ _ _ := ok_refusal T
  refine T.F_undo_change.ok sc_undo_change (fun vs H Q E h => ?_) (fun cdv A outer s H vs Q E hr h => ?_)
  · obtain ⟨a, b, E, g, rfl, _⟩ := h
    rfl
  · obtain ⟨a, b, EE, g, rfl, hst, k⟩ := h
    obtain ⟨C, dx, l, us, olds, h1, h2, h3, h4, h5, h6, h7, h9⟩ := hst.at_
    obtain ⟨things, given, old⟩ := g
    dsimp only at h1 h7 h9
    refine ⟨_, (pss_cons (ps_if (pt_cmpR op_eq (pe_callB call_len_seq (by rfl) T.z_len PySem.boot_len (pa_cons (pe_fld (pv 0) rfl) pa_nil)) pe_int (nomark _))
      (pss_one (ps_ret (pe_call G_refusal (hr.mono (by decide)) rfl T.g_refusal T.F_refusal.kp T.b_refusal .nil pass0 (pa_cons (pe_glob (v := .int 7) rfl T.g_NOTHING_TO_UNDO ⟨_, rfl⟩) pa_nil))))
      pss_nil)
      (pss_cons (ps_fld (pv 0) (pe_bm0 PySem.F.plainAttrs_list PySem.F.slot_list_pop PySem.F.type_list_pop mt_pop (pe_fld (pv 0) rfl)) rfl)
      (pss_one (ps_ret (pe_lst (pa_cons (pe_callB call_len_seq (by rfl) T.z_len PySem.boot_len (pa_cons (pe_fld (pv 0) rfl) pa_nil)) pa_nil)))))), ?_⟩
    refine ⟨_, rfl, a, _, dx, _, _, rfl, h1, T.cl_TermList, T.n_TermList_kept_before, lk_TermList_kept_before _ _ _, b, _, rfl, .inl (SqL.of h2), rfl, _, rfl, ?_⟩
    rw [List.length_map]
    rcases List.eq_nil_or_concat olds with e | ⟨os, o, e⟩
    · subst e
      cases old with
      | cons x r => 
        rw [List.reverse_cons] at h9
        have := congrArg List.length h9
        rw [List.length_append] at this
        simp at this
      | nil =>
        refine if_true_of rfl ?_
        exact ⟨7, rfl, fun H3 p e3 n3 h3 => k H3 p (ExE.of e3) n3 (hst.ex e3) h3⟩
    · rw [List.concat_eq_append] at e
      subst e
      cases old with
      | nil =>
        have := congrArg List.length h9
        simp at this
      | cons x r =>
        rw [List.map_append, List.reverse_cons] at h9
        obtain ⟨h10, h11⟩ := List.append_inj' h9 rfl
        have h12 : ths o.2 = x := by simpa using h11
        refine if_false_of (decide_eq_false (fun q => ?_)) ?_
        · injection q with q
          rw [List.length_append, List.length_singleton] at q
          omega
        · have hb' : (((os ++ [o]).map fun o => V.ref o.1))[((os ++ [o]).map fun o => V.ref o.1).length - 1]? = some (.ref o.1) := by
            rw [List.length_map, List.length_append, List.length_singleton, List.map_append, List.getElem?_append_right (by rw [List.length_map]; omega), List.length_map]
            simp
          have nab : a ≠ b := ne_of h1 h2 (by intro z; cases z)
          refine ⟨_, rfl, a, _, dx, _, _, rfl, h1, T.cl_TermList, T.n_TermList_kept_before, lk_TermList_kept_before _ _ _, .inl ⟨rfl, _, SqL.of h2⟩, b, _, _, rfl, rfl, h2, hb', ?_⟩
          refine ⟨_, rfl, a, T.C_TermList, dx, _, rfl, (by rw [upd_ne nab]; exact h1), T.cl_TermList, T.n_TermList_kept, (by show 3 < 1000; decide), ?_⟩
          generalize hG2 : upd (upd H b _) a _ = H2
          have a2 : H2 a = some (.ins T.C_TermList dx (fs_TermList (.ref o.1) (.ref b) (.int (given : Int)))) := by rw [← hG2, upd_same, pt_TermList_kept]
          have b2 : H2 b = some (.lst (os.map fun o => V.ref o.1)) := by
            rw [← hG2, upd_ne (Ne.symm nab), upd_same, List.map_append]
            simp
          have e2 : ExE [a, b] H H2 := fun x o hx hh => by
            rw [← hG2, upd_ne (fun q => hx (by rw [q]; simp)), upd_ne (fun q => hx (by rw [q]; simp))]
            exact hh
          have hC2 : Same C H2 := fun x o hx => by
            have nx : x ∉ EE := fun m => by rw [h4 x m] at hx; cases hx
            refine e2 x o (fun m => nx ?_) (h3 x o hx)
            rcases List.mem_cons.mp m with m | m
            · exact m ▸ hst.ina
            · exact (List.mem_singleton.mp m) ▸ hst.inb
          have ho := h6 o (List.mem_append.mpr (.inr List.mem_cons_self))
          have ho2 := ho.ex hC2
          refine ⟨_, rfl, a, _, dx, _, _, rfl, a2, T.cl_TermList, T.n_TermList_kept, lk_TermList_kept _ _ _, o.1, _, rfl, .inl (SqL.of ho2.1), big (by show 1 ≤ 1000000; decide), fun p np => ?_⟩
          generalize hG3 : upd _ p _ = H3
          have e3 := nwE hG3 np
          have p3 := nwP hG3
          refine k H3 p (e2.trans (ExE.of e3)) ?_ ⟨hst.ina, hst.inb, fun x hx => ?_, C, dx, o.1, o.2, os, e3 _ _ a2, e3 _ _ b2, hC2.trans e3, h4, ho, fun y hy => h6 y (List.mem_append.mpr (.inl hy)), h12, h10⟩ ?_
          · refine e2.free np (fun q => ?_)
            rcases List.mem_cons.mp q with q | q
            · rw [q, a2] at np
              cases np
            · rw [List.mem_singleton.mp q, b2] at np
              cases np
          · by_cases q : x = a
            · rw [q]
              exact ⟨_, e3 _ _ a2, by intro _ z; cases z⟩
            · by_cases q2 : x = b
              · rw [q2]
                exact ⟨_, e3 _ _ b2, by intro _ z; cases z⟩
              · obtain ⟨y, hy, hn⟩ := hst.dom x hx
                exact ⟨y, e3 _ _ (e2 x y (by simp [q, q2]) hy), hn⟩
          · rw [p3, List.length_map]
            show _ = some (HO.lst ((Ut04.ints [x.length]).map V.int))
            rw [← h12, ths_len]
            rfl
end
end Rn
set_option Elab.async false
set_option maxRecDepth 100000
set_option maxHeartbeats 4000000
set_option linter.unusedVariables false
namespace Rn
open PySem PySem.Spec PyProof.Rows L2
theorem mk_same {H : Hp} {x dx : Addr} {o u : HO} (hx : H x = none) (hd : H dx = none) (ne : dx ≠ x) : Same H (upd (upd H dx o) x u) := fun b v hb => by
  rw [upd_ne (ne_of_none hb hx), upd_ne (ne_of_none hb hd)]
  exact hb
theorem drop_at {l : List Nat} {q m : Nat} {r : List Nat} (h : l.drop q = m :: r) : l[q]? = some m ∧ l.drop (q + 1) = r := by
  obtain ⟨h1, h2, _⟩ := drop_cons h
  exact ⟨h1, h2.symm⟩
section
variable {P : Program} {w : World} {K : PySem.W.Frag} {mg : Str → Option Value} {base : Heap}
theorem thing_unfit {g : Ut04.House} {fs : List (List Nat)} {ts : List (List Nat × Nat)} (h : (srcFit fs && tgtFit ts) = false) : Ut04.step g (.thing fs ts) = (g, [-1]) := by
  have u : Unfit fs ts := by
    refine Classical.byContradiction fun c => ?_
    rw [(fit_iff fs ts).mpr c] at h
    cases h
  unfold Unfit at u
  unfold Ut04.step
  dsimp only
  rw [if_pos u]
theorem thing_many {g : Ut04.House} {fs : List (List Nat)} {ts : List (List Nat × Nat)} (h : (srcFit fs && tgtFit ts) = true) (h8 : 8 ≤ g.things.length) : Ut04.step g (.thing fs ts) = (g, [-5]) := by
  have u : ¬ Unfit fs ts := (fit_iff fs ts).mp h
  unfold Unfit at u
  unfold Ut04.step
  dsimp only
  rw [if_neg u, if_pos h8]
theorem thing_new {g : Ut04.House} {fs : List (List Nat)} {ts : List (List Nat × Nat)} (h : (srcFit fs && tgtFit ts) = true) (h8 : ¬ 8 ≤ g.things.length) : Ut04.step g (.thing fs ts) = (⟨g.things ++ [⟨g.given, fs, ts⟩], g.given + 1, g.things :: g.old⟩, Ut04.ints [g.given]) := by
  have u : ¬ Unfit fs ts := (fit_iff fs ts).mp h
  unfold Unfit at u
  unfold Ut04.step Ut04.changes
  dsimp only
  rw [if_neg u, if_neg h8]
def sp_add_thing (T : Txt K mg) : Sp := fun vs H Q _ => ∃ (a b ta : Addr) (E : List Addr) (g : Ut04.House) (ns : List Nat) (fs : List (List Nat)) (ts : List (List Nat × Nat)), vs = [.ref a, .ref ta] ∧ StAt T H a b E g ∧ g.things.length ≤ 8 ∧ g.old.length ≤ 1000 ∧ SqL K H ta (vI ns) ∧ ns.length ≤ 60 ∧ Ut04Neutral.callIn (0 :: ns) = some (.thing fs ts) ∧
  ∀ H' p, ExE [a, b] H H' → H p = none → StAt T H' a b E (Ut04.step g (.thing fs ts)).1 → H' p = some (.lst ((Ut04.step g (.thing fs ts)).2.map V.int)) → Q (.ref p) H'
theorem ok_add_thing (T : Txt K mg) : FnOk P w K mg base CX0 5 T.f_add_thing T.fd_add_thing ["terms", "told"] (sp_add_thing T) := by
  have G_NumberReader_init : FnOk P w K mg base CX0 1 _ _ _ _ := ok_NumberReader_init T
  have G_read_source_forms : FnOk P w K mg base CX0 3 _ _ _ _ := ok_read_source_forms T
  have G_read_target_forms : FnOk P w K mg base CX0 3 _ _ _ _ := ok_read_target_forms T
  have G_source_forms_fit : FnOk P w K mg base CX0 4 _ _ _ _ := ok_source_forms_fit T
  have G_target_forms_fit : FnOk P w K mg base CX0 4 _ _ _ _ := ok_target_forms_fit T
  have G_refusal : FnOk P w K mg base CX0 1 _ _ _ _ := ok_refusal T
  have G_change_list : FnOk P w K mg base CX0 1 _ _ _ _ := ok_change_list T
  have G_Thing_init : FnOk P w K mg base CX0 1 _ _ _ _ := ok_Thing_init T
  refine T.F_add_thing.ok sc_add_thing (fun vs H Q E h => ?_) (fun cdv A outer s H vs Q E hr h => ?_)
  · obtain ⟨a, b, ta, E, g, ns, fs, ts, rfl, _⟩ := h
    rfl
  · obtain ⟨a, b, ta, EE, g, ns, fs, ts, rfl, hst, h8, hold, hS, hns, hci, k⟩ := h
    obtain ⟨C, dx, l, us, olds, h1, h2, h3, h4, h5, h6, h7, h9⟩ := hst.at_
    have hu8 : us.length = g.things.length := by rw [← ths_len, h7]
    have hol : olds.length ≤ 1000 := by
      have := congrArg List.length h9
      rw [List.length_map, List.length_reverse] at this
      omega
    obtain ⟨n, l', fs', m, r', ts', hl1, hl2, hl3, hl4, hl5, hl6⟩ := in_thing hci
    injection hl6 with hl6 hl7
    subst hl6 hl7
    subst hl1
    obtain ⟨fl1, fl2, fl3⟩ := formsIn_len hl3
    obtain ⟨tl1, tl2, tl3⟩ := targetsIn_len hl5
    rw [List.length_cons] at hns fl2
    refine ⟨_, (pss_cons (ps_set (i := 2) sc_add_thing.nd rfl (Or.inl rfl) (pe_make T.mk_NumberReader G_NumberReader_init (hr.mono (by decide)) rfl T.g_NumberReader T.b_NumberReader_init .nil pass0 (pa_cons (pv 1) pa_nil)))
      (pss_cons (ps_set (i := 3) sc_add_thing.nd rfl (Or.inl rfl) (pe_call G_read_source_forms (hr.mono (by decide)) rfl T.g_read_source_forms T.F_read_source_forms.kp T.b_read_source_forms .nil pass0 (pa_cons (pv 2) pa_nil)))
      (pss_cons (ps_set (i := 4) sc_add_thing.nd rfl (Or.inl rfl) (pe_call G_read_target_forms (hr.mono (by decide)) rfl T.g_read_target_forms T.F_read_target_forms.kp T.b_read_target_forms .nil pass0 (pa_cons (pv 2) pa_nil)))
      (pss_cons (ps_if (pt_not (PW.pt (pw_and (pt_val (pe_call G_source_forms_fit (hr.mono (by decide)) rfl T.g_source_forms_fit T.F_source_forms_fit.kp T.b_source_forms_fit .nil pass0 (pa_cons (pv 3) pa_nil))) (pw_and1 (pt_val (pe_call G_target_forms_fit (hr.mono (by decide)) rfl T.g_target_forms_fit T.F_target_forms_fit.kp T.b_target_forms_fit .nil pass0 (pa_cons (pv 4) pa_nil)))))))
      (pss_one (ps_ret (pe_call G_refusal (hr.mono (by decide)) rfl T.g_refusal T.F_refusal.kp T.b_refusal .nil pass0 (pa_cons (pe_glob (v := .int 1) rfl T.g_NOT_FITTING ⟨_, rfl⟩) pa_nil))))
      pss_nil)
      (pss_cons (ps_if (pt_cmpR op_ge (pe_callB call_len_seq (by rfl) T.z_len PySem.boot_len (pa_cons (pe_fld (pv 0) rfl) pa_nil)) (pe_glob (v := .int 8) rfl T.g_MOST_THINGS ⟨_, rfl⟩) (nomark _))
      (pss_one (ps_ret (pe_call G_refusal (hr.mono (by decide)) rfl T.g_refusal T.F_refusal.kp T.b_refusal .nil pass0 (pa_cons (pe_glob (v := .int 5) rfl T.g_TOO_MANY_THINGS ⟨_, rfl⟩) pa_nil))))
      pss_nil)
      (pss_cons (ps_set (i := 5) sc_add_thing.nd rfl (Or.inl rfl) (pe_fld (pv 0) rfl))
      (pss_cons (ps_fld (pv 0) (pe_op op_add (pv 5) pe_int) rfl)
      (pss_cons (ps_expr (pe_call G_change_list (hr.mono (by decide)) rfl T.g_change_list T.F_change_list.kp T.b_change_list .nil pass0 (pa_cons (pv 0) (pa_cons (pe_op op_cat (pe_fld (pv 0) rfl) (pe_lst (pa_cons (pe_make T.mk_Thing G_Thing_init (hr.mono (by decide)) rfl T.g_Thing T.b_Thing_init .nil pass0 (pa_cons (pv 5) (pa_cons (pv 3) (pa_cons (pv 4) pa_nil)))) pa_nil))) pa_nil))))
      (pss_one (ps_ret (pe_lst (pa_cons (pv 5) pa_nil)))))))))))), ?_⟩
    -- the reader
    refine ⟨_, rfl, fun r dr nr ndr ner => ?_⟩
    have e0 : Same H (upd (upd H dr (.own r)) r (.ins T.C_NumberReader dr [])) := mk_same nr ndr ner
    have r0 : upd (upd H dr (.own r)) r (.ins T.C_NumberReader dr []) r = some (.ins T.C_NumberReader dr []) := upd_same
    generalize hG0 : upd (upd H dr (.own r)) r (.ins T.C_NumberReader dr []) = H0 at e0 r0
    refine ⟨r, dr, ta, rfl, r0, fun H1 hR1 e1 => ⟨rfl, ?_⟩⟩
    have s1 : Same H H1 := fun x o hh => e1 x o (ne_of_none hh nr) (e0 x o hh)
    -- the source forms
    refine ⟨_, rfl, r, ta, 0, n :: l', n, fs, m :: r', rfl, hR1, s1.seq hS, rfl, hl3, by omega, fun H2 ls zs q e2 n2 hR2 hq2 hdq hz hzs => ?_⟩
    have s2 : Same H H2 := fun x o hh => e2 x o (ne_of_none hh nr) (s1 x o hh)
    obtain ⟨hq3, hq4⟩ := drop_at hdq
    obtain ⟨dr2, hR2'⟩ := id hR2
    -- the target forms
    refine ⟨_, rfl, r, ta, q, n :: l', m, ts, [], rfl, hR2, s2.seq hS, hq3, by rw [hq4]; exact hl5, by omega, fun H3 lp ys e3 n3 hy hys => ?_⟩
    have s3 : Same H H3 := fun x o hh => e3 x o (ne_of_none hh nr) (s2 x o hh)
    have hz3 : FormsAt H3 ls zs := hz.exB e3 hR2'
    have zl : zs.length = n := by rw [← fl1, ← hzs, List.length_map]
    have yl : ys.length = m := by rw [← tl1, ← hys, List.length_map]
    -- do they fit
    have e1fit : (decide (1 ≤ zs.length) && (decide (zs.length ≤ 3) && formsOk (zs.map (·.2)))) = srcFit fs := by
      unfold srcFit
      rw [← hzs, List.length_map]
    have e2fit : (decide (ys.length ≤ 4) && ((ys.all fun y => decide (y.2.2.2 ≤ 2)) && formsOk (ys.map (·.2.2.1)))) = tgtFit ts := by
      unfold tgtFit
      rw [← hys, List.length_map, List.all_map, List.map_map]
      rfl
    refine ⟨_, rfl, ls, zs, rfl, hz3, by omega, fun z hz' => ?_, fun H4 e4 => ⟨_, rfl, ?_⟩⟩
    · have := fl3 z.2 (hzs ▸ List.mem_map.mpr ⟨z, hz', rfl⟩)
      omega
    rw [e1fit]
    have s4 := s3.trans e4
    have refuse : ∀ H5, Same H H5 → (srcFit fs && tgtFit ts) = false → sp_refusal [.int 1] H5 Q E0 := by
      intro H5 s5 c
      rw [thing_unfit c] at k
      exact ⟨1, rfl, fun H6 p e6 n6 h6 => k H6 p (ExE.of (s5.trans e6)) (s5.free n6) (hst.ex (s5.trans e6)) h6⟩
    cases c1 : srcFit fs with
    | false => exact refuse H4 s4 (by rw [c1]; rfl)
    | true =>
      refine ⟨_, rfl, lp, ys, rfl, hy.ex e4, by omega, fun y hy' => ?_, fun H5 e5 => ⟨_, rfl, ?_⟩⟩
      · have := tl3 y.2.2 (hys ▸ List.mem_map.mpr ⟨y, hy', rfl⟩)
        omega
      rw [e2fit]
      have s5 := s4.trans e5
      cases c2 : tgtFit ts with
      | false => exact refuse H5 s5 (by rw [c1, c2]; rfl)
      | true =>
        have hfits : (srcFit fs && tgtFit ts) = true := by rw [c1, c2]; rfl
        have hl' := h5.ex (h3.trans s5)
        refine ⟨_, rfl, a, _, dx, _, _, rfl, s5 _ _ h1, T.cl_TermList, T.n_TermList_kept, lk_TermList_kept _ _ _, l, _, rfl, .inl (SqL.of hl'.1), _, _, rfl, rfl, _, rfl, ?_⟩
        rw [List.length_map]
        refine ifb (fun c => ?_) (fun c => ?_)
        · have c' := of_decide_eq_true c
          rw [thing_many hfits (by omega)] at k
          exact ⟨5, rfl, fun H6 p e6 n6 h6 => k H6 p (ExE.of (s5.trans e6)) (s5.free n6) (hst.ex (s5.trans e6)) h6⟩
        · have c' := of_decide_eq_false c
          rw [thing_new hfits (by omega)] at k
          have hz5 : FormsAt H5 ls zs := hz3.ex (e4.trans e5)
          have hy5 : PairsAt H5 lp ys := hy.ex (e4.trans e5)
          have a5 := s5 _ _ h1
          have b5 := s5 _ _ h2
          refine ⟨_, rfl, a, _, dx, _, _, rfl, a5, T.cl_TermList, T.n_TermList_numbers_given, lk_TermList_numbers_given _ _ _, ?_⟩
          refine ⟨_, rfl, _, _, rfl, rfl, _, rfl, a, T.C_TermList, dx, _, rfl, a5, T.cl_TermList, T.n_TermList_numbers_given, (by show 3 < 1000; decide), ?_⟩
          generalize hG6 : upd H5 a _ = H6
          have e6 : ExB a H5 H6 := hG6 ▸ ExB.upd
          have a6 : H6 a = some (.ins T.C_TermList dx (fs_TermList (.ref l) (.ref b) (.int ((g.given + 1 : Nat) : Int)))) := by rw [← hG6, upd_same, pt_TermList_numbers_given]; rfl
          have nab : b ≠ a := ne_of b5 a5 (by intro z; cases z)
          have b6 := e6 _ _ nab b5
          have hz6 : FormsAt H6 ls zs := hz5.exB e6 a5
          have hy6 : PairsAt H6 lp ys := hy5.exB e6 a5
          have hl6 : H6 l = some (.lst (us.map fun u => V.ref u.1)) := e6 _ _ (ne_of hl'.1 a5 (by intro z; cases z)) hl'.1
          have ok : ThOk ⟨g.given, zs.map (·.2), ys.map (·.2.2)⟩ := by
            rw [hzs, hys]
            exact thOk_of g.given hfits
          refine ⟨_, rfl, _, rfl, a, _, dx, _, _, rfl, a6, T.cl_TermList, T.n_TermList_kept, lk_TermList_kept _ _ _, _, rfl, _, rfl, _, rfl, fun p dp np ndp nep => ?_⟩
          have e7 : Same H6 (upd (upd H6 dp (.own p)) p (.ins T.C_Thing dp [])) := mk_same np ndp nep
          have p7 : upd (upd H6 dp (.own p)) p (.ins T.C_Thing dp []) p = some (.ins T.C_Thing dp []) := upd_same
          generalize hG7 : upd (upd H6 dp (.own p)) p (.ins T.C_Thing dp []) = H7 at e7 p7
          refine ⟨p, dp, ls, lp, g.given, zs, ys, rfl, p7, hz6.ex e7, hy6.ex e7, ok, fun H8 dx8 ds p8 ds8 nds e8 => ⟨rfl, big (by show 1 ≤ 1000000; decide), fun pl npl => ?_⟩⟩
          have s68 : Same H6 H8 := fun x o hh => e8 x o (ne_of_none hh np) (e7 x o hh)
          generalize hG9 : upd _ pl _ = H9
          have e9 := nwE hG9 npl
          have pl9 := nwP hG9
          have s69 := s68.trans e9
          refine cat_step (s69 _ _ hl6) pl9 (by rw [List.length_map, List.length_singleton]; omega) fun pn H10 e10 n10 h10 => ?_
          have s6 := s69.trans e10
          refine ⟨a, b, pn, dx, l, _, _, rfl, s6 _ _ a6, s6 _ _ b6, by rw [List.length_map]; exact hol, fun H11 e11 a11 b11 => ?_⟩
          refine ⟨_, rfl, big (by show 1 ≤ 1000000; decide), fun pr npr => ?_⟩
          generalize hG12 : upd _ pr _ = H12
          have e12 := nwE hG12 npr
          have pr12 := nwP hG12
          -- what of the first heap is there at the end
          have all : ExE [a, b] H H12 := fun x o hx hh => e12 x o (e11 x o hx (s6 x o (e6 x o (fun q => hx (by rw [q]; simp)) (s5 x o hh))))
          have late : ∀ x o, x ∉ EE → H10 x = some o → H12 x = some o := fun x o hx hh => e12 x o (e11 x o (fun m => hx (by
            rcases List.mem_cons.mp m with m | m
            · exact m ▸ hst.ina
            · exact (List.mem_singleton.mp m) ▸ hst.inb)) hh)
          have new6 : ∀ x, H6 x = none → H x = none := fun x hx => by
            cases qx : H x with
            | none => rfl
            | some o =>
              by_cases q : x = a
              · rw [q, a6] at hx
                cases hx
              · rw [e6 x o q (s5 x o qx)] at hx
                cases hx
          have npE : p ∉ EE := hst.fresh (new6 p np)
          have npnE : pn ∉ EE := hst.fresh (new6 pn (s69.free n10))
          have nlsE : ls ∉ EE := hst.fresh (s1.free n2)
          have ndsE : ds ∉ EE := hst.fresh (new6 ds (e7.free nds))
          have nzE : ∀ z ∈ zs, z.1 ∉ EE := fun z hz' hm => by
            obtain ⟨o, ho, hn⟩ := hst.dom z.1 hm
            have := s3 _ _ ho
            rw [hz3.2 z hz'] at this
            exact hn _ (Option.some.inj this).symm
          have hr12 : H pr = none := by
            have npa : pr ≠ a := fun q => by rw [q, a11] at npr; cases npr
            have npb : pr ≠ b := fun q => by rw [q, b11] at npr; cases npr
            exact new6 pr (s6.free (e11.free npr (by simp [npa, npb])))
          refine k H12 pr all hr12 ?_ ?_
          · have nC : ∀ x o, x ∉ EE → H10 x = some o → (fun x => if x ∈ EE then none else H12 x : Hp) x = some o := fun x o hx hh => by
              show (if x ∈ EE then none else H12 x) = some o
              rw [if_neg hx]
              exact late x o hx hh
            have hCC : Same C (fun x => if x ∈ EE then none else H12 x) := fun x o hx => by
              have nx : x ∉ EE := fun m => by rw [h4 x m] at hx; cases hx
              show (if x ∈ EE then none else H12 x) = some o
              rw [if_neg nx]
              refine all x o (fun m => nx ?_) (h3 x o hx)
              rcases List.mem_cons.mp m with m | m
              · exact m ▸ hst.ina
              · exact (List.mem_singleton.mp m) ▸ hst.inb
            have hCH : Same (fun x => if x ∈ EE then none else H12 x : Hp) H12 := fun x o hx => by
              have hx : (if x ∈ EE then none else H12 x) = some o := hx
              split at hx
              · cases hx
              · exact hx
            have hgo := hst.changed (n := g.given + 1) (vs := us ++ [(p, ⟨g.given, fs, ts⟩)]) all (e12 _ _ a11) (e12 _ _ b11) hCC hCH (fun x hx => if_pos hx) h5 h6 h7 h9 ⟨?_, fun u hu => ?_⟩
            · have e : ths (us ++ [(p, ⟨g.given, fs, ts⟩)]) = g.things ++ [⟨g.given, fs, ts⟩] := by
                rw [← h7]
                unfold ths
                rw [List.map_append]
                rfl
              rw [e] at hgo
              exact hgo
            · refine nC pn _ npnE ?_
              rw [h10, List.map_append]
              rfl
            · rcases List.mem_append.mp hu with hu | hu
              · exact (h5.2 u hu).ex hCC
              · rw [List.mem_singleton.mp hu]
                have s810 := e9.trans e10
                refine ⟨by rw [← hzs, ← hys]; exact ok, dx8, ls, ds, zs, nC p _ npE (s810 _ _ p8), ⟨nC ls _ nlsE (s6 _ _ hz6.1), fun z hz' => nC z.1 _ (nzE z hz') (s6 _ _ (hz6.2 z hz'))⟩, hzs, nC ds _ ndsE ?_⟩
                rw [s810 _ _ ds8, hys]
          · rw [pr12]
            rfl
end
end Rn
set_option Elab.async false
set_option maxRecDepth 100000
set_option maxHeartbeats 4000000
set_option linter.unusedVariables false
namespace Rn
open PySem PySem.Spec PyProof.Rows L2
theorem skip {n : Nat} {k : Int} (h : (n : Int) ≠ k) : decide (V.int (n : Int) = V.int k) = false := decide_eq_false fun q => by
  injection q with q
  exact h q
theorem step_marks (g : Ut04.House) (s : List Nat) : Ut04.step g (.marks s) = (g, mkAns g.things s) := rfl
theorem step_check (g : Ut04.House) (s t : List Nat) : Ut04.step g (.check s t) = (g, ckAns g.things s t) := by
  unfold Ut04.step ckAns ckN
  dsimp only
  congr 5
theorem step_doubles (g : Ut04.House) : Ut04.step g .doubles = (g, Ut04.ints (dAns g.things)) := rfl
theorem step_best (g : Ut04.House) (n : Nat) : Ut04.step g (.best n) = (g, bsAns g.things n) := rfl
theorem step_things (g : Ut04.House) : Ut04.step g .things = (g, thAns g.things) := rfl
theorem step_named (g : Ut04.House) (f : List Nat) : Ut04.step g (.named f) = (g, nmAns g.things f) := rfl
section
variable {P : Program} {w : World} {K : PySem.W.Frag} {mg : Str → Option Value} {base : Heap}
theorem RdAt.not {T : Txt K mg} {H : Hp} {r ca : Addr} {q : Int} (h : RdAt T H r ca q) : ∃ o, H r = some o ∧ ∀ xs, o ≠ .tup xs := by
  obtain ⟨dx, h⟩ := h
  exact ⟨_, h, by intro _ z; cases z⟩
/-- the reader went on: the state stands -/
theorem StAt.read {T : Txt K mg} {H H' : Hp} {a b r ca : Addr} {E : List Addr} {g : Ut04.House} {q : Int} (h : StAt T H a b E g) (e : ExB r H H') (hr : r ∈ E) (na : r ≠ a) (nb : r ≠ b) (hR : RdAt T H' r ca q) : StAt T H' a b E g :=
  h.mut (F := [r]) (ExE.ofB e (List.mem_singleton.mpr rfl)) fun x hx => by
    rw [List.mem_singleton.mp hx]
    exact ⟨hr, na, nb, hR.not⟩
/-- behind the reader's steps and one of the list's -/
theorem fin_call {T : Txt K mg} {H H2 H3 : Hp} {a b r ca p : Addr} {q : Int} (e2 : ExB r H H2) (hR : RdAt T H2 r ca q) (na : r ≠ a) (nb : r ≠ b) (e3 : ExE [a, b] H2 H3) (n3 : H2 p = none) : ExE [a, b, r] H H3 ∧ H p = none ∧ RdAt T H3 r ca q := by
  refine ⟨fun x o hx hh => ?_, ?_, ?_⟩
  · refine e3 x o (fun m => hx ?_) (e2 x o (fun m => hx ?_) hh)
    · rcases List.mem_cons.mp m with m | m
      · simp [m]
      · simp [List.mem_singleton.mp m]
    · simp [m]
  · cases c : H p with
    | none => rfl
    | some o =>
      have np : p ≠ r := fun m => by
        obtain ⟨dx, hR⟩ := hR
        rw [m, hR] at n3
        cases n3
      rw [e2 p o np c] at n3
      cases n3
  · obtain ⟨dx, hR⟩ := hR
    exact ⟨dx, e3 _ _ (by simp [na, nb]) hR⟩
def sp_answer_call (T : Txt K mg) : Sp := fun vs H Q _ => ∃ (a b r ca : Addr) (E : List Addr) (g : Ut04.House) (ms : List Nat) (q q' : Nat) (c : List (List Int)) (x : Ut04.Call), vs = [.ref a, .ref r] ∧ StAt T H a b E g ∧ r ∈ E ∧ r ≠ a ∧ r ≠ b ∧ Good g 1000 ∧ RdAt T H r ca (q : Int) ∧ SqL K H ca (vI ms) ∧
  Cl ms q c q' ∧ (∀ n ∈ ms, n < 4294967296) ∧ PyInside.call PyUt04.bound c = true ∧ Ut04Neutral.callOf (flat c) = some x ∧
  ∀ H' p, ExE [a, b, r] H H' → H p = none → StAt T H' a b E (Ut04.step g x).1 → RdAt T H' r ca (q' : Int) → H' p = some (.lst ((Ut04.step g x).2.map V.int)) → Q (.ref p) H'
theorem row_lt {ms : List Nat} {i n : Nat} (h : ∀ n ∈ ms, n < 4294967296) : ∀ m ∈ (ms.drop i).take n, m < 4294967296 := fun m hm => h m (List.mem_of_mem_drop (List.mem_of_mem_take hm))
theorem ok_answer_call (T : Txt K mg) : FnOk P w K mg base CX0 7 T.f_answer_call T.fd_answer_call ["terms", "reader"] (sp_answer_call T) := by
  have G_NumberReader_take : FnOk P w K mg base CX0 1 _ _ _ _ := ok_NumberReader_take T
  have G_NumberReader_take_row : FnOk P w K mg base CX0 2 _ _ _ _ := ok_NumberReader_take_row T
  have G_add_thing : FnOk P w K mg base CX0 5 _ _ _ _ := ok_add_thing T
  have G_drop_thing : FnOk P w K mg base CX0 2 _ _ _ _ := ok_drop_thing T
  have G_tell_marks : FnOk P w K mg base CX0 4 _ _ _ _ := ok_tell_marks T
  have G_check_translation : FnOk P w K mg base CX0 6 _ _ _ _ := ok_check_translation T
  have G_tell_doubles : FnOk P w K mg base CX0 3 _ _ _ _ := ok_tell_doubles T
  have G_tell_best : FnOk P w K mg base CX0 2 _ _ _ _ := ok_tell_best T
  have G_tell_things : FnOk P w K mg base CX0 1 _ _ _ _ := ok_tell_things T
  have G_undo_change : FnOk P w K mg base CX0 2 _ _ _ _ := ok_undo_change T
  have G_tell_named : FnOk P w K mg base CX0 3 _ _ _ _ := ok_tell_named T
  refine T.F_answer_call.ok sc_answer_call (fun vs H Q E h => ?_) (fun cdv A outer s H vs Q E hr h => ?_)
  · obtain ⟨a, b, r, ca, E, g, ms, q, q', c, x, rfl, _⟩ := h
    rfl
  · obtain ⟨a, b, r, ca, EE, g, ms, q, q', c, x, rfl, hst, hrE, na, nb, good, hR, hS, hcl, hlt, hin, hco, k⟩ := h
    obtain ⟨dx, hR'⟩ := id hR
    refine ⟨_, (pss_cons (ps_set (i := 2) sc_answer_call.nd rfl (Or.inl rfl) (pe_meth0 (pv 1) T.cl_NumberReader T.m_NumberReader_take G_NumberReader_take (hr.mono (by decide)) T.b_NumberReader_take .nil pass0))
      (pss_cons (ps_if (pt_cmpR op_eq (pv 2) (pe_glob (v := .int 0) rfl T.g_THING ⟨_, rfl⟩) (nomark _))
      (pss_one (ps_ret (pe_call G_add_thing (hr.mono (by decide)) rfl T.g_add_thing T.F_add_thing.kp T.b_add_thing .nil pass0 (pa_cons (pv 0) (pa_cons (pe_meth0 (pv 1) T.cl_NumberReader T.m_NumberReader_take_row G_NumberReader_take_row (hr.mono (by decide)) T.b_NumberReader_take_row .nil pass0) pa_nil)))))
      pss_nil)
      (pss_cons (ps_if (pt_cmpR op_eq (pv 2) (pe_glob (v := .int 1) rfl T.g_GONE ⟨_, rfl⟩) (nomark _))
      (pss_one (ps_ret (pe_call G_drop_thing (hr.mono (by decide)) rfl T.g_drop_thing T.F_drop_thing.kp T.b_drop_thing .nil pass0 (pa_cons (pv 0) (pa_cons (pe_meth0 (pv 1) T.cl_NumberReader T.m_NumberReader_take G_NumberReader_take (hr.mono (by decide)) T.b_NumberReader_take .nil pass0) pa_nil)))))
      pss_nil)
      (pss_cons (ps_if (pt_cmpR op_eq (pv 2) (pe_glob (v := .int 2) rfl T.g_MARKS ⟨_, rfl⟩) (nomark _))
      (pss_one (ps_ret (pe_call G_tell_marks (hr.mono (by decide)) rfl T.g_tell_marks T.F_tell_marks.kp T.b_tell_marks .nil pass0 (pa_cons (pv 0) (pa_cons (pe_meth0 (pv 1) T.cl_NumberReader T.m_NumberReader_take_row G_NumberReader_take_row (hr.mono (by decide)) T.b_NumberReader_take_row .nil pass0) pa_nil)))))
      pss_nil)
      (pss_cons (ps_if (pt_cmpR op_eq (pv 2) (pe_glob (v := .int 3) rfl T.g_CHECK ⟨_, rfl⟩) (nomark _))
      (pss_cons (ps_set (i := 3) sc_answer_call.nd rfl (Or.inl rfl) (pe_meth0 (pv 1) T.cl_NumberReader T.m_NumberReader_take_row G_NumberReader_take_row (hr.mono (by decide)) T.b_NumberReader_take_row .nil pass0))
      (pss_one (ps_ret (pe_call G_check_translation (hr.mono (by decide)) rfl T.g_check_translation T.F_check_translation.kp T.b_check_translation .nil pass0 (pa_cons (pv 0) (pa_cons (pv 3) (pa_cons (pe_meth0 (pv 1) T.cl_NumberReader T.m_NumberReader_take_row G_NumberReader_take_row (hr.mono (by decide)) T.b_NumberReader_take_row .nil pass0) pa_nil)))))))
      pss_nil)
      (pss_cons (ps_if (pt_cmpR op_eq (pv 2) (pe_glob (v := .int 4) rfl T.g_DOUBLES ⟨_, rfl⟩) (nomark _))
      (pss_one (ps_ret (pe_call G_tell_doubles (hr.mono (by decide)) rfl T.g_tell_doubles T.F_tell_doubles.kp T.b_tell_doubles .nil pass0 (pa_cons (pv 0) pa_nil))))
      pss_nil)
      (pss_cons (ps_if (pt_cmpR op_eq (pv 2) (pe_glob (v := .int 5) rfl T.g_BEST_FORM ⟨_, rfl⟩) (nomark _))
      (pss_one (ps_ret (pe_call G_tell_best (hr.mono (by decide)) rfl T.g_tell_best T.F_tell_best.kp T.b_tell_best .nil pass0 (pa_cons (pv 0) (pa_cons (pe_meth0 (pv 1) T.cl_NumberReader T.m_NumberReader_take G_NumberReader_take (hr.mono (by decide)) T.b_NumberReader_take .nil pass0) pa_nil)))))
      pss_nil)
      (pss_cons (ps_if (pt_cmpR op_eq (pv 2) (pe_glob (v := .int 6) rfl T.g_THINGS ⟨_, rfl⟩) (nomark _))
      (pss_one (ps_ret (pe_call G_tell_things (hr.mono (by decide)) rfl T.g_tell_things T.F_tell_things.kp T.b_tell_things .nil pass0 (pa_cons (pv 0) pa_nil))))
      pss_nil)
      (pss_cons (ps_if (pt_cmpR op_eq (pv 2) (pe_glob (v := .int 7) rfl T.g_UNDO ⟨_, rfl⟩) (nomark _))
      (pss_one (ps_ret (pe_call G_undo_change (hr.mono (by decide)) rfl T.g_undo_change T.F_undo_change.kp T.b_undo_change .nil pass0 (pa_cons (pv 0) pa_nil))))
      pss_nil)
      (pss_cons (ps_if (pt_cmpR op_eq (pv 2) (pe_glob (v := .int 8) rfl T.g_NAMED ⟨_, rfl⟩) (nomark _))
      (pss_one (ps_ret (pe_call G_tell_named (hr.mono (by decide)) rfl T.g_tell_named T.F_tell_named.kp T.b_tell_named .nil pass0 (pa_cons (pv 0) (pa_cons (pe_meth0 (pv 1) T.cl_NumberReader T.m_NumberReader_take_row G_NumberReader_take_row (hr.mono (by decide)) T.b_NumberReader_take_row .nil pass0) pa_nil)))))
      pss_nil)
      (pss_one ps_never))))))))))), ?_⟩
    have h8 := good.th.1
    have ho := good.len
    cases hcl with
    | thing n h0 h1 h2 =>
      have hl : (tI ((ms.drop (q + 2)).take n)).length ≤ 60 := lists1 (p := 0) (lo := 0) (hi := 4294967295) (a := 2) (b := 60) rfl hin
      rw [tI_len] at hl
      rw [flat_thing, callOf_tI (fun m hm => by
        rcases List.mem_cons.mp hm with rfl | hm
        · decide
        · exact row_lt hlt m hm)] at hco
      obtain ⟨_, _, fs, _, _, ts, _, _, _, _, _, ex⟩ := in_thing hco
      subst ex
      refine ⟨_, rfl, r, dx, _, rfl, hR', no_NumberReader_take _ _, r, ca, q, ms, 0, rfl, hR, hS, h0, fun H1 e1 hR1 => ?_⟩
      have st1 := hst.read e1 hrE na nb hR1
      have hS1 := SqL.exB e1 hR' hS
      refine ⟨_, rfl, rfl, _, rfl, if_true_of (decide_eq_true rfl) ?_⟩
      obtain ⟨dx1, hR1'⟩ := id hR1
      refine ⟨_, rfl, _, rfl, r, dx1, _, rfl, hR1', no_NumberReader_take_row _ _, r, ca, q + 1, ms, n, rfl, hR1, hS1, h1, by omega, fun H2 l e2 n2 hR2 h2 => ?_⟩
      have st2 := st1.read e2 hrE na nb hR2
      refine ⟨a, b, l, EE, g, _, fs, ts, rfl, st2, h8, ho, SqL.of h2, hl, hco, fun H3 p e3 n3 st3 h3 => ?_⟩
      rw [show q + 1 + 1 + n = q + 2 + n by omega] at hR2
      obtain ⟨f1, f2, f3⟩ := fin_call (ExB.trans e1 e2) hR2 na nb e3 n3
      exact k H3 p f1 f2 st3 f3 h3
    | gone x0 h0 h1 =>
      have ex : Ut04Neutral.callOf (flat [[1, (x0 : Int)]]) = some (.gone x0) := by
        rw [flat_gone, callOf_tI (fun m hm => by
          rcases List.mem_cons.mp hm with rfl | hm
          · decide
          · exact hlt m (List.mem_singleton.mp hm ▸ List.mem_of_getElem? h1))]
        rfl
      cases ex.symm.trans hco
      refine ⟨_, rfl, r, dx, _, rfl, hR', no_NumberReader_take _ _, r, ca, q, ms, 1, rfl, hR, hS, h0, fun H1 e1 hR1 => ?_⟩
      have st1 := hst.read e1 hrE na nb hR1
      have hS1 := SqL.exB e1 hR' hS
      refine ⟨_, rfl, rfl, _, rfl, if_false_of (skip (by decide)) ?_⟩
      refine ⟨_, rfl, rfl, _, rfl, if_true_of (decide_eq_true rfl) ?_⟩
      obtain ⟨dx1, hR1'⟩ := id hR1
      refine ⟨_, rfl, _, rfl, r, dx1, _, rfl, hR1', no_NumberReader_take _ _, r, ca, q + 1, ms, x0, rfl, hR1, hS1, h1, fun H2 e2 hR2 => ?_⟩
      have st2 := st1.read e2 hrE na nb hR2
      refine ⟨a, b, EE, g, x0, rfl, st2, h8, ho, fun H3 p e3 n3 st3 h3 => ?_⟩
      obtain ⟨f1, f2, f3⟩ := fin_call (ExB.trans e1 e2) hR2 na nb e3 n3
      exact k H3 p f1 f2 st3 f3 h3
    | marks n h0 h1 h2 =>
      have hl : (tI ((ms.drop (q + 2)).take n)).length ≤ 20 := lists1 (p := 2) (lo := 0) (hi := 4294967295) (a := 0) (b := 20) rfl hin
      rw [tI_len] at hl
      have ex : Ut04Neutral.callOf (flat [[2], tI ((ms.drop (q + 2)).take n)]) = some (.marks ((ms.drop (q + 2)).take n)) := by
        rw [flat_marks, callOf_tI (fun m hm => by
          rcases List.mem_cons.mp hm with rfl | hm
          · decide
          · rcases List.mem_cons.mp hm with rfl | hm
            · omega
            · exact row_lt hlt m hm), in_marks]
      cases ex.symm.trans hco
      refine ⟨_, rfl, r, dx, _, rfl, hR', no_NumberReader_take _ _, r, ca, q, ms, 2, rfl, hR, hS, h0, fun H1 e1 hR1 => ?_⟩
      have st1 := hst.read e1 hrE na nb hR1
      have hS1 := SqL.exB e1 hR' hS
      iterate 2 refine ⟨_, rfl, rfl, _, rfl, if_false_of (skip (by decide)) ?_⟩
      refine ⟨_, rfl, rfl, _, rfl, if_true_of (decide_eq_true rfl) ?_⟩
      obtain ⟨dx1, hR1'⟩ := id hR1
      refine ⟨_, rfl, _, rfl, r, dx1, _, rfl, hR1', no_NumberReader_take_row _ _, r, ca, q + 1, ms, n, rfl, hR1, hS1, h1, by omega, fun H2 l e2 n2 hR2 h2 => ?_⟩
      have st2 := st1.read e2 hrE na nb hR2
      obtain ⟨us, hk, hu⟩ := st2.kept
      refine ⟨a, l, us, (ms.drop (q + 2)).take n, rfl, hk, by rw [← ths_len, hu]; exact h8, SqL.of h2, by omega, fun H3 p e3 n3 h3 => ?_⟩
      rw [show q + 1 + 1 + n = q + 2 + n by omega] at hR2
      obtain ⟨f1, f2, f3⟩ := fin_call (ExB.trans e1 e2) hR2 na nb (ExE.of e3) n3
      rw [step_marks] at k
      exact k H3 p f1 f2 (st2.ex e3) f3 (by rw [h3, hu])
    | check n m h0 h1 h2 h3 h4 =>
      have hl := lists2 (p := 3) (lo := 0) (hi := 4294967295) (a := 0) (b := 20) (lo' := 0) (hi' := 4294967295) (a' := 0) (b' := 20) rfl hin
      rw [tI_len, tI_len] at hl
      have ex : Ut04Neutral.callOf (flat [[3], tI ((ms.drop (q + 2)).take n), tI ((ms.drop (q + 2 + n + 1)).take m)]) = some (.check ((ms.drop (q + 2)).take n) ((ms.drop (q + 2 + n + 1)).take m)) := by
        rw [flat_check, callOf_tI (fun y hm => by
          rcases List.mem_cons.mp hm with rfl | hm
          · decide
          · rcases List.mem_cons.mp hm with rfl | hm
            · omega
            · rcases List.mem_append.mp hm with hm | hm
              · exact row_lt hlt y hm
              · rcases List.mem_cons.mp hm with rfl | hm
                · omega
                · exact row_lt hlt y hm), in_check]
      cases ex.symm.trans hco
      refine ⟨_, rfl, r, dx, _, rfl, hR', no_NumberReader_take _ _, r, ca, q, ms, 3, rfl, hR, hS, h0, fun H1 e1 hR1 => ?_⟩
      have st1 := hst.read e1 hrE na nb hR1
      have hS1 := SqL.exB e1 hR' hS
      iterate 3 refine ⟨_, rfl, rfl, _, rfl, if_false_of (skip (by decide)) ?_⟩
      refine ⟨_, rfl, rfl, _, rfl, if_true_of (decide_eq_true rfl) ?_⟩
      obtain ⟨dx1, hR1'⟩ := id hR1
      refine ⟨_, rfl, r, dx1, _, rfl, hR1', no_NumberReader_take_row _ _, r, ca, q + 1, ms, n, rfl, hR1, hS1, h1, by omega, fun H2 l e2 n2 hR2 h2' => ?_⟩
      have st2 := st1.read e2 hrE na nb hR2
      rw [show q + 1 + 1 + n = q + 2 + n by omega] at hR2
      obtain ⟨dx2, hR2'⟩ := id hR2
      have hS2 := SqL.exB e2 hR1' hS1
      refine ⟨_, rfl, _, rfl, _, rfl, r, dx2, _, rfl, hR2', no_NumberReader_take_row _ _, r, ca, q + 2 + n, ms, m, rfl, hR2, hS2, h3, by omega, fun H3 l3 e3 n3 hR3 h3' => ?_⟩
      have st3 := st2.read e3 hrE na nb hR3
      have hl3 := e3 _ _ (ne_of h2' hR2' (by intro z; cases z)) h2'
      obtain ⟨us, hk, hu⟩ := st3.kept
      refine ⟨a, l, l3, us, (ms.drop (q + 2)).take n, (ms.drop (q + 2 + n + 1)).take m, rfl, hk, by rw [← ths_len, hu]; exact h8, by rw [hu]; exact good.th.2.1, SqL.of hl3, by omega, SqL.of h3', by omega, fun H4 p e4 n4 h4' => ?_⟩
      obtain ⟨f1, f2, f3⟩ := fin_call (ExB.trans (ExB.trans e1 e2) e3) hR3 na nb (ExE.of e4) n4
      rw [step_check] at k
      exact k H4 p f1 f2 (st3.ex e4) f3 (by rw [h4', hu])
    | doubles h0 =>
      have ex : Ut04Neutral.callOf (flat [[4]]) = some .doubles := rfl
      cases ex.symm.trans hco
      refine ⟨_, rfl, r, dx, _, rfl, hR', no_NumberReader_take _ _, r, ca, q, ms, 4, rfl, hR, hS, h0, fun H1 e1 hR1 => ?_⟩
      have st1 := hst.read e1 hrE na nb hR1
      have hS1 := SqL.exB e1 hR' hS
      iterate 4 refine ⟨_, rfl, rfl, _, rfl, if_false_of (skip (by decide)) ?_⟩
      refine ⟨_, rfl, rfl, _, rfl, if_true_of (decide_eq_true rfl) ?_⟩
      obtain ⟨us, hk, hu⟩ := st1.kept
      refine ⟨_, rfl, a, us, rfl, hk, by rw [← ths_len, hu]; exact h8, fun H2 p e2 n2 h2 => ?_⟩
      obtain ⟨f1, f2, f3⟩ := fin_call e1 hR1 na nb (ExE.of e2) n2
      rw [step_doubles] at k
      exact k H2 p f1 f2 (st1.ex e2) f3 (by rw [h2, hu, ints_vI])
    | best x0 h0 h1 =>
      have ex : Ut04Neutral.callOf (flat [[5, (x0 : Int)]]) = some (.best x0) := by
        rw [show flat [[5, (x0 : Int)]] = tI [5, x0] from rfl, callOf_tI (fun m hm => by
          rcases List.mem_cons.mp hm with rfl | hm
          · decide
          · exact hlt m (List.mem_singleton.mp hm ▸ List.mem_of_getElem? h1))]
        rfl
      cases ex.symm.trans hco
      refine ⟨_, rfl, r, dx, _, rfl, hR', no_NumberReader_take _ _, r, ca, q, ms, 5, rfl, hR, hS, h0, fun H1 e1 hR1 => ?_⟩
      have st1 := hst.read e1 hrE na nb hR1
      have hS1 := SqL.exB e1 hR' hS
      iterate 5 refine ⟨_, rfl, rfl, _, rfl, if_false_of (skip (by decide)) ?_⟩
      refine ⟨_, rfl, rfl, _, rfl, if_true_of (decide_eq_true rfl) ?_⟩
      obtain ⟨dx1, hR1'⟩ := id hR1
      refine ⟨_, rfl, _, rfl, r, dx1, _, rfl, hR1', no_NumberReader_take _ _, r, ca, q + 1, ms, x0, rfl, hR1, hS1, h1, fun H2 e2 hR2 => ?_⟩
      have st2 := st1.read e2 hrE na nb hR2
      obtain ⟨us, hk, hu⟩ := st2.kept
      refine ⟨a, us, x0, rfl, hk, by rw [← ths_len, hu]; exact h8, fun H3 p e3 n3 h3 => ?_⟩
      obtain ⟨f1, f2, f3⟩ := fin_call (ExB.trans e1 e2) hR2 na nb (ExE.of e3) n3
      rw [step_best] at k
      exact k H3 p f1 f2 (st2.ex e3) f3 (by rw [h3, hu])
    | things h0 =>
      have ex : Ut04Neutral.callOf (flat [[6]]) = some .things := rfl
      cases ex.symm.trans hco
      refine ⟨_, rfl, r, dx, _, rfl, hR', no_NumberReader_take _ _, r, ca, q, ms, 6, rfl, hR, hS, h0, fun H1 e1 hR1 => ?_⟩
      have st1 := hst.read e1 hrE na nb hR1
      have hS1 := SqL.exB e1 hR' hS
      iterate 6 refine ⟨_, rfl, rfl, _, rfl, if_false_of (skip (by decide)) ?_⟩
      refine ⟨_, rfl, rfl, _, rfl, if_true_of (decide_eq_true rfl) ?_⟩
      obtain ⟨us, hk, hu⟩ := st1.kept
      refine ⟨_, rfl, a, us, rfl, hk, by rw [← ths_len, hu]; exact h8, fun H2 p e2 n2 h2 => ?_⟩
      obtain ⟨f1, f2, f3⟩ := fin_call e1 hR1 na nb (ExE.of e2) n2
      rw [step_things] at k
      exact k H2 p f1 f2 (st1.ex e2) f3 (by rw [h2, hu])
    | undo h0 =>
      have ex : Ut04Neutral.callOf (flat [[7]]) = some .undo := rfl
      cases ex.symm.trans hco
      refine ⟨_, rfl, r, dx, _, rfl, hR', no_NumberReader_take _ _, r, ca, q, ms, 7, rfl, hR, hS, h0, fun H1 e1 hR1 => ?_⟩
      have st1 := hst.read e1 hrE na nb hR1
      have hS1 := SqL.exB e1 hR' hS
      iterate 7 refine ⟨_, rfl, rfl, _, rfl, if_false_of (skip (by decide)) ?_⟩
      refine ⟨_, rfl, rfl, _, rfl, if_true_of (decide_eq_true rfl) ?_⟩
      refine ⟨_, rfl, a, b, EE, g, rfl, st1, fun H2 p e2 n2 st2 h2 => ?_⟩
      obtain ⟨f1, f2, f3⟩ := fin_call e1 hR1 na nb e2 n2
      exact k H2 p f1 f2 st2 f3 h2
    | named n h0 h1 h2 =>
      have hl : (tI ((ms.drop (q + 2)).take n)).length ≤ 20 := lists1 (p := 8) (lo := 0) (hi := 4294967295) (a := 0) (b := 20) rfl hin
      rw [tI_len] at hl
      have ex : Ut04Neutral.callOf (flat [[8], tI ((ms.drop (q + 2)).take n)]) = some (.named ((ms.drop (q + 2)).take n)) := by
        rw [flat_named, callOf_tI (fun m hm => by
          rcases List.mem_cons.mp hm with rfl | hm
          · decide
          · rcases List.mem_cons.mp hm with rfl | hm
            · omega
            · exact row_lt hlt m hm), in_named]
      cases ex.symm.trans hco
      refine ⟨_, rfl, r, dx, _, rfl, hR', no_NumberReader_take _ _, r, ca, q, ms, 8, rfl, hR, hS, h0, fun H1 e1 hR1 => ?_⟩
      have st1 := hst.read e1 hrE na nb hR1
      have hS1 := SqL.exB e1 hR' hS
      iterate 8 refine ⟨_, rfl, rfl, _, rfl, if_false_of (skip (by decide)) ?_⟩
      refine ⟨_, rfl, rfl, _, rfl, if_true_of (decide_eq_true rfl) ?_⟩
      obtain ⟨dx1, hR1'⟩ := id hR1
      refine ⟨_, rfl, _, rfl, r, dx1, _, rfl, hR1', no_NumberReader_take_row _ _, r, ca, q + 1, ms, n, rfl, hR1, hS1, h1, by omega, fun H2 l e2 n2 hR2 h2 => ?_⟩
      have st2 := st1.read e2 hrE na nb hR2
      obtain ⟨us, hk, hu⟩ := st2.kept
      refine ⟨a, l, us, (ms.drop (q + 2)).take n, rfl, hk, by rw [← ths_len, hu]; exact h8, SqL.of h2, by omega, fun H3 p e3 n3 h3 => ?_⟩
      rw [show q + 1 + 1 + n = q + 2 + n by omega] at hR2
      obtain ⟨f1, f2, f3⟩ := fin_call (ExB.trans e1 e2) hR2 na nb (ExE.of e3) n3
      rw [step_named] at k
      exact k H3 p f1 f2 (st2.ex e3) f3 (by rw [h3, hu])
end
end Rn
set_option Elab.async false
set_option maxRecDepth 100000
set_option maxHeartbeats 4000000
set_option linter.unusedVariables false
namespace Rn
open PySem PySem.Spec PyProof.Rows L2
theorem bigW {n : Nat} (h : n ≤ 1000040) : n ≤ sizeLine := Nat.le_trans h (by decide)
theorem biglW {n : Nat} (h : n ≤ 1000040) : n < sizeLine := Nat.lt_of_le_of_lt h (by decide)
section
variable {P : Program} {w : World} {K : PySem.W.Frag} {mg : Str → Option Value} {base : Heap}
/-- ahead of a turn: what is told, and what there is still to be gone through -/
def Lp (T : Txt K mg) (ca a b r t : Addr) (H : Hp) (ms : List Nat) (raw : List (List (List Int))) (m : Nat) (σ : L2.St) (H' : Hp) : Prop :=
  ∃ (q f : Nat) (rest : List (List (List Int))) (g : Ut04.House) (done : List Int) (v4 : Option V), m = ms.length - q ∧ σ = [some (.ref ca), some (.ref a), some (.ref r), some (.ref t), v4] ∧ Same H H' ∧ StAt T H' a b [a, b, r, t] g ∧ RdAt T H' r ca (q : Int) ∧ H' t = some (.lst (done.map V.int)) ∧
    PyFlat.calls PyUt04.shape f (tI (ms.drop q)) = some rest ∧ q ≤ ms.length ∧ rest.length ≤ 40 ∧ Good g (40 - rest.length) ∧ (∀ c ∈ rest, PyInside.call PyUt04.bound c = true) ∧ (∀ c ∈ rest, (Ut04Neutral.callOf (flat c)).isSome = true) ∧ done ++ toldFrom g rest = toldFrom Ut04.init raw
def sp_answers (K : PySem.W.Frag) : Sp := fun vs H Q _ => ∃ (a : Addr) (ns : List Int), vs = [.ref a] ∧ SqL K H a (ns.map V.int) ∧ ns.length ≤ 2600 ∧ (∀ x ∈ ns, 0 ≤ x ∧ x ≤ 4294967295) ∧ PyUt04.answers_asked ns = true ∧
  ∀ (H' : Hp) (p : Addr), H' p = some (.lst ((PyUt04.answers ns).map V.int)) → Q (.ref p) H'
theorem ok_answers (T : Txt K mg) : FnOk P w K mg base CX0 8 T.f_answers T.fd_answers ["calls"] (sp_answers K) := by
  have G_TermList_init : FnOk P w K mg base CX0 1 _ _ _ _ := ok_TermList_init T
  have G_NumberReader_init : FnOk P w K mg base CX0 1 _ _ _ _ := ok_NumberReader_init T
  have G_NumberReader_at_end : FnOk P w K mg base CX0 1 _ _ _ _ := ok_NumberReader_at_end T
  have G_answer_call : FnOk P w K mg base CX0 7 _ _ _ _ := ok_answer_call T
  refine T.F_answers.ok sc_answers (fun vs H Q E h => ?_) (fun cdv A outer s H vs Q E hr h => ?_)
  · obtain ⟨a, ns, rfl, _⟩ := h
    rfl
  · obtain ⟨ca, ns, rfl, hS, hlen, hrange, hasked, k⟩ := h
    obtain ⟨raw, hraw, h40, hins, hcall, htot⟩ := asked_raw hasked
    rw [answers_raw hraw] at k
    obtain ⟨ms, hms⟩ : ∃ ms : List Nat, ms = ns.map Int.toNat := ⟨_, rfl⟩
    have hns : ns = tI ms := by rw [hms]; exact (tI_of fun x hx => (hrange x hx).1).symm
    have hlt : ∀ n ∈ ms, n < 4294967296 := fun n hn => by
      rw [hms] at hn
      obtain ⟨x, hx, rfl⟩ := List.mem_map.mp hn
      have := hrange x hx
      omega
    have hSm : SqL K H ca (vI ms) := by
      have e : ns.map V.int = vI ms := by
        rw [hns]
        unfold tI vI
        rw [List.map_map]
        rfl
      rw [← e]
      exact hS
    have hraw' : PyFlat.calls PyUt04.shape ns.length (tI (ms.drop 0)) = some raw := by
      rw [List.drop_zero, ← hns]
      exact hraw
    refine ⟨_, (pss_cons (ps_set (i := 1) sc_answers.nd rfl (Or.inl rfl) (pe_make0 T.mk_TermList G_TermList_init (hr.mono (by decide)) rfl T.g_TermList T.b_TermList_init .nil pass0))
      (pss_cons (ps_set (i := 2) sc_answers.nd rfl (Or.inl rfl) (pe_make T.mk_NumberReader G_NumberReader_init (hr.mono (by decide)) rfl T.g_NumberReader T.b_NumberReader_init .nil pass0 (pa_cons (pv 0) pa_nil)))
      (pss_cons (ps_set (i := 3) sc_answers.nd rfl (Or.inl rfl) (pe_lst pa_nil))
      (pss_cons (ps_while PassesOwn.never (pt_not (pt_val (pe_meth0 (pv 2) T.cl_NumberReader T.m_NumberReader_at_end G_NumberReader_at_end (hr.mono (by decide)) T.b_NumberReader_at_end .nil pass0)))
      (pss_cons (ps_set (i := 4) sc_answers.nd rfl (Or.inl rfl) (pe_call G_answer_call (hr.mono (by decide)) rfl T.g_answer_call T.F_answer_call.kp T.b_answer_call .nil pass0 (pa_cons (pv 1) (pa_cons (pv 2) pa_nil))))
      (pss_cons (ps_expr (pe_bm PySem.F.plainAttrs_list PySem.F.slot_list_append PySem.F.type_list_append mt_append (pv 3) (pa_cons (pe_callB call_len_seq (by rfl) T.z_len PySem.boot_len (pa_cons (pv 4) pa_nil)) pa_nil)))
      (pss_one (ps_expr (pe_bm PySem.F.plainAttrs_list PySem.F.slot_list_extend PySem.F.type_list_extend mt_extend (pv 3) (pa_cons (pv 4) pa_nil)))))))
      (pss_one (ps_ret (pv 3))))))), ?_⟩
    -- terms
    intro a da nAa nAd nAe
    have e0 : Same H (upd (upd H da (.own a)) a (.ins T.C_TermList da [])) := mk_same nAa nAd nAe
    have a0 : upd (upd H da (.own a)) a (.ins T.C_TermList da []) a = some (.ins T.C_TermList da []) := upd_same
    generalize hG0 : upd (upd H da (.own a)) a (.ins T.C_TermList da []) = H0 at e0 a0
    refine ⟨a, da, rfl, a0, fun H1 l b a1 l1 b1 nl nb nlb e1 => ⟨rfl, ?_⟩⟩
    have s1 : Same H H1 := fun x o hh => e1 x o (ne_of_none hh nAa) (e0 x o hh)
    -- reader
    refine ⟨_, rfl, fun r dr nr ndr ner => ?_⟩
    have e2 : Same H1 (upd (upd H1 dr (.own r)) r (.ins T.C_NumberReader dr [])) := mk_same nr ndr ner
    have r2 : upd (upd H1 dr (.own r)) r (.ins T.C_NumberReader dr []) r = some (.ins T.C_NumberReader dr []) := upd_same
    generalize hG2 : upd (upd H1 dr (.own r)) r (.ins T.C_NumberReader dr []) = H2 at e2 r2
    refine ⟨r, dr, ca, rfl, r2, fun H3 hR3 e3 => ⟨rfl, ?_⟩⟩
    have s13 : Same H1 H3 := fun x o hh => e3 x o (ne_of_none hh nr) (e2 x o hh)
    -- told
    refine ⟨big (by show 0 ≤ 1000000; decide), fun t nt => ?_⟩
    generalize hG4 : upd _ t _ = H4
    have e4 := nwE hG4 nt
    have t4 := nwP hG4
    have s14 := s13.trans e4
    have s4 := s1.trans s14
    obtain ⟨dr3, hR3'⟩ := id hR3
    have hR4' := e4 _ _ hR3'
    have na : a ≠ r := ne_of_none a1 nr
    have nbr : b ≠ r := ne_of_none b1 nr
    have nlr : l ≠ r := ne_of_none l1 nr
    have nat : a ≠ t := ne_of_none (s13 _ _ a1) nt
    have nbt : b ≠ t := ne_of_none (s13 _ _ b1) nt
    have nlt : l ≠ t := ne_of_none (s13 _ _ l1) nt
    have nrt : r ≠ t := ne_of_none hR3' nt
    have nla : l ≠ a := ne_of l1 a1 (by intro z; cases z)
    have Hr : H r = none := s1.free nr
    have Ht : H t = none := (s1.trans s13).free nt
    have Hb : H b = none := e0.free nb
    have st4 : StAt T H4 a b [a, b, r, t] Ut04.init := by
      refine ⟨by simp, by simp, fun x hx => ?_, upd (fun _ => none) l (.lst []), da, l, [], [], s14 _ _ a1, s14 _ _ b1, fun x o hx => ?_, fun x hx => ?_, ⟨upd_same, (fun u hu => nomatch hu)⟩, (fun o ho => nomatch ho), rfl, rfl⟩
      · simp only [List.mem_cons, List.not_mem_nil, or_false] at hx
        rcases hx with rfl | rfl | rfl | rfl
        · exact ⟨_, s14 _ _ a1, by intro _ z; cases z⟩
        · exact ⟨_, s14 _ _ b1, by intro _ z; cases z⟩
        · exact ⟨_, hR4', by intro _ z; cases z⟩
        · exact ⟨_, t4, by intro _ z; cases z⟩
      · by_cases q : x = l
        · rw [q, upd_same] at hx
          rw [q, ← hx]
          exact s14 _ _ l1
        · rw [upd_ne q] at hx
          cases hx
      · have q : x ≠ l := by
          simp only [List.mem_cons, List.not_mem_nil, or_false] at hx
          rcases hx with rfl | rfl | rfl | rfl
          · exact Ne.symm nla
          · exact Ne.symm nlb
          · exact Ne.symm nlr
          · exact Ne.symm nlt
        rw [upd_ne q]
    -- the loop
    refine ⟨Lp T ca a b r t H ms raw,
      ⟨_, 0, ns.length, raw, Ut04.init, [], none, rfl, rfl, s4, st4, ⟨dr3, hR4'⟩, t4, hraw', Nat.zero_le _, h40, Good.init.mono (Nat.zero_le _), hins, hcall, rfl⟩, ?_⟩
    rintro m σ H' ⟨q, f, rest, g, done, v4, rfl, rfl, sH, st, hR, ht, hcs, hq, h40', good, hin, hca, hdone⟩
    obtain ⟨dx, hR'⟩ := id hR
    have hS' := sH.seq hSm
    refine ⟨_, rfl, r, dx, _, rfl, hR', no_NumberReader_at_end _ _, r, ca, q, ms, rfl, hR, hS', _, rfl, ?_⟩
    cases hend : decide (ms.length ≤ q) with
    | true =>
      have hq' : q = ms.length := by have := of_decide_eq_true hend; omega
      rw [hq', List.drop_length] at hcs
      have hre : rest = [] := by
        cases f <;> cases hcs <;> rfl
      subst hre
      have : toldFrom g [] = [] := rfl
      rw [this, List.append_nil] at hdone
      refine ⟨_, rfl, k H' t ?_⟩
      rw [ht, hdone]
    | false =>
      have hq' : q < ms.length := by have := of_decide_eq_false hend; omega
      obtain ⟨p0, r0, hpr⟩ : ∃ p0 r0, tI (ms.drop q) = p0 :: r0 := by
        rw [List.drop_eq_getElem_cons hq']
        exact ⟨_, _, rfl⟩
      rw [hpr] at hcs
      obtain ⟨f', c, tl, cs', rfl, hc, hcs', rfl⟩ := calls_step hcs
      rw [← hpr] at hc
      obtain ⟨q2, hcl, htl, hlt2, hle2⟩ := call_at hc
      rw [htl] at hcs'
      rw [List.length_cons] at h40' good
      obtain ⟨x, hx⟩ := Option.isSome_iff_exists.mp (hca c List.mem_cons_self)
      have hstp : stp g c = Ut04.step g x := stp_of hx
      rw [toldFrom_cons, hstp] at hdone
      have hsz := congrArg List.length hdone
      simp only [List.length_append, List.length_cons] at hsz
      refine ⟨fun σ' H'' => ∃ m', m' < ms.length - q ∧ Lp T ca a b r t H ms raw m' σ' H'', fun _ _ z => z, ?_⟩
      · refine ⟨_, rfl, _, rfl, a, b, r, ca, [a, b, r, t], g, ms, q, q2, c, x, rfl, st, by simp, Ne.symm na, Ne.symm nbr, good.mono (by omega), hR, hS', hcl, hlt, hin c List.mem_cons_self, hx, fun H5 p e5 n5 st5 hR5 h5 => ?_⟩
        have np : p ∉ [a, b, r, t] := st.fresh n5
        have t5 : H5 t = some (.lst (done.map V.int)) := e5 _ _ (by simp [Ne.symm nat, Ne.symm nbt, Ne.symm nrt]) ht
        have npt : p ≠ t := fun z => np (by simp [z])
        refine ⟨_, rfl, .inl ⟨rfl, _, SqL.of t5⟩, _, rfl, p, _, rfl, .inl (SqL.of h5), t, _, _, rfl, rfl, t5, biglW (by rw [List.length_map]; omega), ?_⟩
        generalize hG6 : upd H5 t _ = H6
        have t6 : H6 t = some (.lst (done.map V.int ++ [V.int (((((Ut04.step g x).2.map V.int).length : Nat)) : Int)])) := by rw [← hG6, upd_same]
        have p6 : H6 p = some (.lst ((Ut04.step g x).2.map V.int)) := by rw [← hG6, upd_ne npt]; exact h5
        refine ⟨_, rfl, .inl ⟨rfl, _, SqL.of t6⟩, _, rfl, t, p, _, _, rfl, rfl, t6, p6, bigW (by simp only [List.length_append, List.length_map, List.length_cons, List.length_nil]; omega), ?_⟩
        generalize hG7 : upd H6 t _ = H7
        have t7 : H7 t = some (.lst ((done ++ (((Ut04.step g x).2.length : Nat) : Int) :: (Ut04.step g x).2).map V.int)) := by
          rw [← hG7, upd_same, List.length_map, List.map_append, List.map_cons, List.append_assoc]
          rfl
        have e57 : ExE [t] H5 H7 := fun y o hy hh => by
          have : y ≠ t := fun z => hy (by simp [z])
          rw [← hG7, upd_ne this, ← hG6, upd_ne this]
          exact hh
        have st7 : StAt T H7 a b [a, b, r, t] (Ut04.step g x).1 := st5.mut e57 fun y hy => by
          rw [List.mem_singleton.mp hy]
          exact ⟨by simp, Ne.symm nat, Ne.symm nbt, _, t7, by intro _ z; cases z⟩
        have hR7 : RdAt T H7 r ca (q2 : Int) := by
          obtain ⟨dx5, hR5'⟩ := hR5
          exact ⟨dx5, e57 _ _ (by simp [nrt]) hR5'⟩
        have sH7 : Same H H7 := fun y o hh => by
          have ya : y ≠ a := ne_of_none hh nAa
          have yb : y ≠ b := ne_of_none hh Hb
          have yr : y ≠ r := ne_of_none hh Hr
          have yt : y ≠ t := ne_of_none hh Ht
          exact e57 y o (by simp [yt]) (e5 y o (by simp [ya, yb, yr]) (sH y o hh))
        refine ⟨ms.length - q2, by omega, q2, f', cs', (Ut04.step g x).1, _, _, rfl, rfl, sH7, st7, hR7, t7, hcs', hle2, by omega, (good.step x).mono (by omega), fun y hy => hin y (List.mem_cons_of_mem _ hy), fun y hy => hca y (List.mem_cons_of_mem _ hy), ?_⟩
        rw [List.append_assoc]
        exact hdone
end
end Rn
set_option Elab.async false
set_option maxRecDepth 100000
set_option maxHeartbeats 8000000
set_option linter.unusedVariables false
namespace Rn
open PySem PySem.Spec PyProof.Rows L2
theorem all_mk {P : Program} {w : World} {K : PySem.W.Frag} {h : Heap} {mg : Str → Option Value} {fa : Addr} (X : K.In h) (G : h.Ns mainGlobals mg) (hfa : mg "answers" = some (.ref fa))
    {C_Mark : Addr}
    {C_TermList : Addr}
    {C_Thing : Addr}
    {C_NumberReader : Addr}
    {f0 : Addr} {od0 an0 : Option Addr} {sl0 : Array (Option Value)} {oc0 kV0 dc0 pm0 cd0 ct0 : Value}
    {f1 : Addr} {od1 an1 : Option Addr} {sl1 : Array (Option Value)} {oc1 kV1 dc1 pm1 cd1 ct1 : Value}
    {f2 : Addr} {od2 an2 : Option Addr} {sl2 : Array (Option Value)} {oc2 kV2 dc2 pm2 cd2 ct2 : Value}
    {f3 : Addr} {od3 an3 : Option Addr} {sl3 : Array (Option Value)} {oc3 kV3 dc3 pm3 cd3 ct3 : Value}
    {f4 : Addr} {od4 an4 : Option Addr} {sl4 : Array (Option Value)} {oc4 kV4 dc4 pm4 cd4 ct4 : Value}
    {f5 : Addr} {od5 an5 : Option Addr} {sl5 : Array (Option Value)} {oc5 kV5 dc5 pm5 cd5 ct5 : Value}
    {f6 : Addr} {od6 an6 : Option Addr} {sl6 : Array (Option Value)} {oc6 kV6 dc6 pm6 cd6 ct6 : Value}
    {f7 : Addr} {od7 an7 : Option Addr} {sl7 : Array (Option Value)} {oc7 kV7 dc7 pm7 cd7 ct7 : Value}
    {f8 : Addr} {od8 an8 : Option Addr} {sl8 : Array (Option Value)} {oc8 kV8 dc8 pm8 cd8 ct8 : Value}
    {f9 : Addr} {od9 an9 : Option Addr} {sl9 : Array (Option Value)} {oc9 kV9 dc9 pm9 cd9 ct9 : Value}
    {f10 : Addr} {od10 an10 : Option Addr} {sl10 : Array (Option Value)} {oc10 kV10 dc10 pm10 cd10 ct10 : Value}
    {f11 : Addr} {od11 an11 : Option Addr} {sl11 : Array (Option Value)} {oc11 kV11 dc11 pm11 cd11 ct11 : Value}
    {f12 : Addr} {od12 an12 : Option Addr} {sl12 : Array (Option Value)} {oc12 kV12 dc12 pm12 cd12 ct12 : Value}
    {f13 : Addr} {od13 an13 : Option Addr} {sl13 : Array (Option Value)} {oc13 kV13 dc13 pm13 cd13 ct13 : Value}
    {f14 : Addr} {od14 an14 : Option Addr} {sl14 : Array (Option Value)} {oc14 kV14 dc14 pm14 cd14 ct14 : Value}
    {f15 : Addr} {od15 an15 : Option Addr} {sl15 : Array (Option Value)} {oc15 kV15 dc15 pm15 cd15 ct15 : Value}
    {f16 : Addr} {od16 an16 : Option Addr} {sl16 : Array (Option Value)} {oc16 kV16 dc16 pm16 cd16 ct16 : Value}
    {f17 : Addr} {od17 an17 : Option Addr} {sl17 : Array (Option Value)} {oc17 kV17 dc17 pm17 cd17 ct17 : Value}
    {f18 : Addr} {od18 an18 : Option Addr} {sl18 : Array (Option Value)} {oc18 kV18 dc18 pm18 cd18 ct18 : Value}
    {f19 : Addr} {od19 an19 : Option Addr} {sl19 : Array (Option Value)} {oc19 kV19 dc19 pm19 cd19 ct19 : Value}
    {f20 : Addr} {od20 an20 : Option Addr} {sl20 : Array (Option Value)} {oc20 kV20 dc20 pm20 cd20 ct20 : Value}
    {f21 : Addr} {od21 an21 : Option Addr} {sl21 : Array (Option Value)} {oc21 kV21 dc21 pm21 cd21 ct21 : Value}
    {f22 : Addr} {od22 an22 : Option Addr} {sl22 : Array (Option Value)} {oc22 kV22 dc22 pm22 cd22 ct22 : Value}
    {f23 : Addr} {od23 an23 : Option Addr} {sl23 : Array (Option Value)} {oc23 kV23 dc23 pm23 cd23 ct23 : Value}
    {f24 : Addr} {od24 an24 : Option Addr} {sl24 : Array (Option Value)} {oc24 kV24 dc24 pm24 cd24 ct24 : Value}
    {f25 : Addr} {od25 an25 : Option Addr} {sl25 : Array (Option Value)} {oc25 kV25 dc25 pm25 cd25 ct25 : Value}
    {f26 : Addr} {od26 an26 : Option Addr} {sl26 : Array (Option Value)} {oc26 kV26 dc26 pm26 cd26 ct26 : Value}
    {f27 : Addr} {od27 an27 : Option Addr} {sl27 : Array (Option Value)} {oc27 kV27 dc27 pm27 cd27 ct27 : Value}
    {f28 : Addr} {od28 an28 : Option Addr} {sl28 : Array (Option Value)} {oc28 kV28 dc28 pm28 cd28 ct28 : Value}
    {f29 : Addr} {od29 an29 : Option Addr} {sl29 : Array (Option Value)} {oc29 kV29 dc29 pm29 cd29 ct29 : Value}
    {f30 : Addr} {od30 an30 : Option Addr} {sl30 : Array (Option Value)} {oc30 kV30 dc30 pm30 cd30 ct30 : Value}
    {f31 : Addr} {od31 an31 : Option Addr} {sl31 : Array (Option Value)} {oc31 kV31 dc31 pm31 cd31 ct31 : Value}
    {f32 : Addr} {od32 an32 : Option Addr} {sl32 : Array (Option Value)} {oc32 kV32 dc32 pm32 cd32 ct32 : Value}
    {f33 : Addr} {od33 an33 : Option Addr} {sl33 : Array (Option Value)} {oc33 kV33 dc33 pm33 cd33 ct33 : Value}
    {f34 : Addr} {od34 an34 : Option Addr} {sl34 : Array (Option Value)} {oc34 kV34 dc34 pm34 cd34 ct34 : Value}
    {f35 : Addr} {od35 an35 : Option Addr} {sl35 : Array (Option Value)} {oc35 kV35 dc35 pm35 cd35 ct35 : Value}
    {f36 : Addr} {od36 an36 : Option Addr} {sl36 : Array (Option Value)} {oc36 kV36 dc36 pm36 cd36 ct36 : Value}
    {f37 : Addr} {od37 an37 : Option Addr} {sl37 : Array (Option Value)} {oc37 kV37 dc37 pm37 cd37 ct37 : Value}
    {f38 : Addr} {od38 an38 : Option Addr} {sl38 : Array (Option Value)} {oc38 kV38 dc38 pm38 cd38 ct38 : Value}
    {f39 : Addr} {od39 an39 : Option Addr} {sl39 : Array (Option Value)} {oc39 kV39 dc39 pm39 cd39 ct39 : Value}
    {f40 : Addr} {od40 an40 : Option Addr} {sl40 : Array (Option Value)} {oc40 kV40 dc40 pm40 cd40 ct40 : Value}
    {f41 : Addr} {od41 an41 : Option Addr} {sl41 : Array (Option Value)} {oc41 kV41 dc41 pm41 cd41 ct41 : Value}
    {f42 : Addr} {od42 an42 : Option Addr} {sl42 : Array (Option Value)} {oc42 kV42 dc42 pm42 cd42 ct42 : Value}
    {f43 : Addr} {od43 an43 : Option Addr} {sl43 : Array (Option Value)} {oc43 kV43 dc43 pm43 cd43 ct43 : Value}
    {f44 : Addr} {od44 an44 : Option Addr} {sl44 : Array (Option Value)} {oc44 kV44 dc44 pm44 cd44 ct44 : Value}
    {f45 : Addr} {od45 an45 : Option Addr} {sl45 : Array (Option Value)} {oc45 kV45 dc45 pm45 cd45 ct45 : Value}
    {f46 : Addr} {od46 an46 : Option Addr} {sl46 : Array (Option Value)} {oc46 kV46 dc46 pm46 cd46 ct46 : Value}
    {f47 : Addr} {od47 an47 : Option Addr} {sl47 : Array (Option Value)} {oc47 kV47 dc47 pm47 cd47 ct47 : Value}
    {f48 : Addr} {od48 an48 : Option Addr} {sl48 : Array (Option Value)} {oc48 kV48 dc48 pm48 cd48 ct48 : Value}
    {f49 : Addr} {od49 an49 : Option Addr} {sl49 : Array (Option Value)} {oc49 kV49 dc49 pm49 cd49 ct49 : Value}
    {t_NOT_FITTING : Tok}
    {t_NO_SUCH_THING : Tok}
    {t_TOO_MANY_THINGS : Tok}
    {t_NO_RIGHT_FORM : Tok}
    {t_NOTHING_TO_UNDO : Tok}
    {t_HIGHEST_WORD : Tok}
    {t_MOST_FORM_WORDS : Tok}
    {t_MOST_SENTENCE_WORDS : Tok}
    {t_BEST : Tok}
    {t_ALLOWED : Tok}
    {t_FORBIDDEN : Tok}
    {t_MOST_THINGS : Tok}
    {t_MOST_SOURCE_FORMS : Tok}
    {t_MOST_TARGET_FORMS : Tok}
    {t_MOST_CHECKED_MARKS : Tok}
    {t_THING : Tok}
    {t_GONE : Tok}
    {t_MARKS : Tok}
    {t_CHECK : Tok}
    {t_DOUBLES : Tok}
    {t_BEST_FORM : Tok}
    {t_THINGS : Tok}
    {t_UNDO : Tok}
    {t_NAMED : Tok}
    (a0 : PySem.W.nsIn K mainGlobals "refusal" = some (some (.ref f0)))
    (l0 : K.lookup f0 = some ⟨oc0, od0, .func (PySem.W.fnOf "refusal" "refusal" (defArgs s_refusal) (defBody s_refusal) (defScope s_refusal) .none kV0 dc0 pm0 an0 cd0 ct0), sl0⟩) (c0 : PySem.W.codeIn K cd0 "refusal" = true) (k0 : PySem.W.keepIn K (.ref f0) = true)
    (a1 : PySem.W.findIn K (.ref C_NumberReader) "__init__" = some (some (.ref f1))) (i1 : PySem.W.isFn K (.ref f1) = true)
    (l1 : K.lookup f1 = some ⟨oc1, od1, .func (PySem.W.fnOf "__init__" "NumberReader.__init__" (defArgs s_NumberReader_init) (defBody s_NumberReader_init) (defScope s_NumberReader_init) .none kV1 dc1 pm1 an1 cd1 ct1), sl1⟩) (c1 : PySem.W.codeIn K cd1 "NumberReader.__init__" = true) (k1 : PySem.W.keepIn K (.ref f1) = true)
    (a2 : PySem.W.findIn K (.ref C_NumberReader) "at_end" = some (some (.ref f2))) (i2 : PySem.W.isFn K (.ref f2) = true)
    (l2 : K.lookup f2 = some ⟨oc2, od2, .func (PySem.W.fnOf "at_end" "NumberReader.at_end" (defArgs s_NumberReader_at_end) (defBody s_NumberReader_at_end) (defScope s_NumberReader_at_end) .none kV2 dc2 pm2 an2 cd2 ct2), sl2⟩) (c2 : PySem.W.codeIn K cd2 "NumberReader.at_end" = true) (k2 : PySem.W.keepIn K (.ref f2) = true)
    (a3 : PySem.W.findIn K (.ref C_NumberReader) "take" = some (some (.ref f3))) (i3 : PySem.W.isFn K (.ref f3) = true)
    (l3 : K.lookup f3 = some ⟨oc3, od3, .func (PySem.W.fnOf "take" "NumberReader.take" (defArgs s_NumberReader_take) (defBody s_NumberReader_take) (defScope s_NumberReader_take) .none kV3 dc3 pm3 an3 cd3 ct3), sl3⟩) (c3 : PySem.W.codeIn K cd3 "NumberReader.take" = true) (k3 : PySem.W.keepIn K (.ref f3) = true)
    (a4 : PySem.W.findIn K (.ref C_NumberReader) "take_row" = some (some (.ref f4))) (i4 : PySem.W.isFn K (.ref f4) = true)
    (l4 : K.lookup f4 = some ⟨oc4, od4, .func (PySem.W.fnOf "take_row" "NumberReader.take_row" (defArgs s_NumberReader_take_row) (defBody s_NumberReader_take_row) (defScope s_NumberReader_take_row) .none kV4 dc4 pm4 an4 cd4 ct4), sl4⟩) (c4 : PySem.W.codeIn K cd4 "NumberReader.take_row" = true) (k4 : PySem.W.keepIn K (.ref f4) = true)
    (a5 : PySem.W.nsIn K mainGlobals "words_fit" = some (some (.ref f5)))
    (l5 : K.lookup f5 = some ⟨oc5, od5, .func (PySem.W.fnOf "words_fit" "words_fit" (defArgs s_words_fit) (defBody s_words_fit) (defScope s_words_fit) .none kV5 dc5 pm5 an5 cd5 ct5), sl5⟩) (c5 : PySem.W.codeIn K cd5 "words_fit" = true) (k5 : PySem.W.keepIn K (.ref f5) = true)
    (a6 : PySem.W.nsIn K mainGlobals "is_form" = some (some (.ref f6)))
    (l6 : K.lookup f6 = some ⟨oc6, od6, .func (PySem.W.fnOf "is_form" "is_form" (defArgs s_is_form) (defBody s_is_form) (defScope s_is_form) .none kV6 dc6 pm6 an6 cd6 ct6), sl6⟩) (c6 : PySem.W.codeIn K cd6 "is_form" = true) (k6 : PySem.W.keepIn K (.ref f6) = true)
    (a7 : PySem.W.nsIn K mainGlobals "is_sentence" = some (some (.ref f7)))
    (l7 : K.lookup f7 = some ⟨oc7, od7, .func (PySem.W.fnOf "is_sentence" "is_sentence" (defArgs s_is_sentence) (defBody s_is_sentence) (defScope s_is_sentence) .none kV7 dc7 pm7 an7 cd7 ct7), sl7⟩) (c7 : PySem.W.codeIn K cd7 "is_sentence" = true) (k7 : PySem.W.keepIn K (.ref f7) = true)
    (a8 : PySem.W.findIn K (.ref C_Thing) "__init__" = some (some (.ref f8))) (i8 : PySem.W.isFn K (.ref f8) = true)
    (l8 : K.lookup f8 = some ⟨oc8, od8, .func (PySem.W.fnOf "__init__" "Thing.__init__" (defArgs s_Thing_init) (defBody s_Thing_init) (defScope s_Thing_init) .none kV8 dc8 pm8 an8 cd8 ct8), sl8⟩) (c8 : PySem.W.codeIn K cd8 "Thing.__init__" = true) (k8 : PySem.W.keepIn K (.ref f8) = true)
    (a9 : PySem.W.findIn K (.ref C_Thing) "is_meant_by" = some (some (.ref f9))) (i9 : PySem.W.isFn K (.ref f9) = true)
    (l9 : K.lookup f9 = some ⟨oc9, od9, .func (PySem.W.fnOf "is_meant_by" "Thing.is_meant_by" (defArgs s_Thing_is_meant_by) (defBody s_Thing_is_meant_by) (defScope s_Thing_is_meant_by) .none kV9 dc9 pm9 an9 cd9 ct9), sl9⟩) (c9 : PySem.W.codeIn K cd9 "Thing.is_meant_by" = true) (k9 : PySem.W.keepIn K (.ref f9) = true)
    (a10 : PySem.W.findIn K (.ref C_Thing) "is_served_by" = some (some (.ref f10))) (i10 : PySem.W.isFn K (.ref f10) = true)
    (l10 : K.lookup f10 = some ⟨oc10, od10, .func (PySem.W.fnOf "is_served_by" "Thing.is_served_by" (defArgs s_Thing_is_served_by) (defBody s_Thing_is_served_by) (defScope s_Thing_is_served_by) .none kV10 dc10 pm10 an10 cd10 ct10), sl10⟩) (c10 : PySem.W.codeIn K cd10 "Thing.is_served_by" = true) (k10 : PySem.W.keepIn K (.ref f10) = true)
    (a11 : PySem.W.findIn K (.ref C_Thing) "forbids" = some (some (.ref f11))) (i11 : PySem.W.isFn K (.ref f11) = true)
    (l11 : K.lookup f11 = some ⟨oc11, od11, .func (PySem.W.fnOf "forbids" "Thing.forbids" (defArgs s_Thing_forbids) (defBody s_Thing_forbids) (defScope s_Thing_forbids) .none kV11 dc11 pm11 an11 cd11 ct11), sl11⟩) (c11 : PySem.W.codeIn K cd11 "Thing.forbids" = true) (k11 : PySem.W.keepIn K (.ref f11) = true)
    (a12 : PySem.W.findIn K (.ref C_Thing) "target_forms_that_are" = some (some (.ref f12))) (i12 : PySem.W.isFn K (.ref f12) = true)
    (l12 : K.lookup f12 = some ⟨oc12, od12, .func (PySem.W.fnOf "target_forms_that_are" "Thing.target_forms_that_are" (defArgs s_Thing_target_forms_that_are) (defBody s_Thing_target_forms_that_are) (defScope s_Thing_target_forms_that_are) .none kV12 dc12 pm12 an12 cd12 ct12), sl12⟩) (c12 : PySem.W.codeIn K cd12 "Thing.target_forms_that_are" = true) (k12 : PySem.W.keepIn K (.ref f12) = true)
    (a13 : PySem.W.findIn K (.ref C_TermList) "__init__" = some (some (.ref f13))) (i13 : PySem.W.isFn K (.ref f13) = true)
    (l13 : K.lookup f13 = some ⟨oc13, od13, .func (PySem.W.fnOf "__init__" "TermList.__init__" (defArgs s_TermList_init) (defBody s_TermList_init) (defScope s_TermList_init) .none kV13 dc13 pm13 an13 cd13 ct13), sl13⟩) (c13 : PySem.W.codeIn K cd13 "TermList.__init__" = true) (k13 : PySem.W.keepIn K (.ref f13) = true)
    (a14 : PySem.W.nsIn K mainGlobals "read_source_forms" = some (some (.ref f14)))
    (l14 : K.lookup f14 = some ⟨oc14, od14, .func (PySem.W.fnOf "read_source_forms" "read_source_forms" (defArgs s_read_source_forms) (defBody s_read_source_forms) (defScope s_read_source_forms) .none kV14 dc14 pm14 an14 cd14 ct14), sl14⟩) (c14 : PySem.W.codeIn K cd14 "read_source_forms" = true) (k14 : PySem.W.keepIn K (.ref f14) = true)
    (a15 : PySem.W.nsIn K mainGlobals "read_target_forms" = some (some (.ref f15)))
    (l15 : K.lookup f15 = some ⟨oc15, od15, .func (PySem.W.fnOf "read_target_forms" "read_target_forms" (defArgs s_read_target_forms) (defBody s_read_target_forms) (defScope s_read_target_forms) .none kV15 dc15 pm15 an15 cd15 ct15), sl15⟩) (c15 : PySem.W.codeIn K cd15 "read_target_forms" = true) (k15 : PySem.W.keepIn K (.ref f15) = true)
    (a16 : PySem.W.nsIn K mainGlobals "are_forms" = some (some (.ref f16)))
    (l16 : K.lookup f16 = some ⟨oc16, od16, .func (PySem.W.fnOf "are_forms" "are_forms" (defArgs s_are_forms) (defBody s_are_forms) (defScope s_are_forms) .none kV16 dc16 pm16 an16 cd16 ct16), sl16⟩) (c16 : PySem.W.codeIn K cd16 "are_forms" = true) (k16 : PySem.W.keepIn K (.ref f16) = true)
    (a17 : PySem.W.nsIn K mainGlobals "source_forms_fit" = some (some (.ref f17)))
    (l17 : K.lookup f17 = some ⟨oc17, od17, .func (PySem.W.fnOf "source_forms_fit" "source_forms_fit" (defArgs s_source_forms_fit) (defBody s_source_forms_fit) (defScope s_source_forms_fit) .none kV17 dc17 pm17 an17 cd17 ct17), sl17⟩) (c17 : PySem.W.codeIn K cd17 "source_forms_fit" = true) (k17 : PySem.W.keepIn K (.ref f17) = true)
    (a18 : PySem.W.nsIn K mainGlobals "target_forms_fit" = some (some (.ref f18)))
    (l18 : K.lookup f18 = some ⟨oc18, od18, .func (PySem.W.fnOf "target_forms_fit" "target_forms_fit" (defArgs s_target_forms_fit) (defBody s_target_forms_fit) (defScope s_target_forms_fit) .none kV18 dc18 pm18 an18 cd18 ct18), sl18⟩) (c18 : PySem.W.codeIn K cd18 "target_forms_fit" = true) (k18 : PySem.W.keepIn K (.ref f18) = true)
    (a19 : PySem.W.nsIn K mainGlobals "change_list" = some (some (.ref f19)))
    (l19 : K.lookup f19 = some ⟨oc19, od19, .func (PySem.W.fnOf "change_list" "change_list" (defArgs s_change_list) (defBody s_change_list) (defScope s_change_list) .none kV19 dc19 pm19 an19 cd19 ct19), sl19⟩) (c19 : PySem.W.codeIn K cd19 "change_list" = true) (k19 : PySem.W.keepIn K (.ref f19) = true)
    (a20 : PySem.W.nsIn K mainGlobals "add_thing" = some (some (.ref f20)))
    (l20 : K.lookup f20 = some ⟨oc20, od20, .func (PySem.W.fnOf "add_thing" "add_thing" (defArgs s_add_thing) (defBody s_add_thing) (defScope s_add_thing) .none kV20 dc20 pm20 an20 cd20 ct20), sl20⟩) (c20 : PySem.W.codeIn K cd20 "add_thing" = true) (k20 : PySem.W.keepIn K (.ref f20) = true)
    (a21 : PySem.W.nsIn K mainGlobals "drop_thing" = some (some (.ref f21)))
    (l21 : K.lookup f21 = some ⟨oc21, od21, .func (PySem.W.fnOf "drop_thing" "drop_thing" (defArgs s_drop_thing) (defBody s_drop_thing) (defScope s_drop_thing) .none kV21 dc21 pm21 an21 cd21 ct21), sl21⟩) (c21 : PySem.W.codeIn K cd21 "drop_thing" = true) (k21 : PySem.W.keepIn K (.ref f21) = true)
    (a22 : PySem.W.nsIn K mainGlobals "undo_change" = some (some (.ref f22)))
    (l22 : K.lookup f22 = some ⟨oc22, od22, .func (PySem.W.fnOf "undo_change" "undo_change" (defArgs s_undo_change) (defBody s_undo_change) (defScope s_undo_change) .none kV22 dc22 pm22 an22 cd22 ct22), sl22⟩) (c22 : PySem.W.codeIn K cd22 "undo_change" = true) (k22 : PySem.W.keepIn K (.ref f22) = true)
    (a23 : PySem.W.nsIn K mainGlobals "all_source_forms" = some (some (.ref f23)))
    (l23 : K.lookup f23 = some ⟨oc23, od23, .func (PySem.W.fnOf "all_source_forms" "all_source_forms" (defArgs s_all_source_forms) (defBody s_all_source_forms) (defScope s_all_source_forms) .none kV23 dc23 pm23 an23 cd23 ct23), sl23⟩) (c23 : PySem.W.codeIn K cd23 "all_source_forms" = true) (k23 : PySem.W.keepIn K (.ref f23) = true)
    (a24 : PySem.W.nsIn K mainGlobals "all_target_forms" = some (some (.ref f24)))
    (l24 : K.lookup f24 = some ⟨oc24, od24, .func (PySem.W.fnOf "all_target_forms" "all_target_forms" (defArgs s_all_target_forms) (defBody s_all_target_forms) (defScope s_all_target_forms) .none kV24 dc24 pm24 an24 cd24 ct24), sl24⟩) (c24 : PySem.W.codeIn K cd24 "all_target_forms" = true) (k24 : PySem.W.keepIn K (.ref f24) = true)
    (a25 : PySem.W.nsIn K mainGlobals "things_meant" = some (some (.ref f25)))
    (l25 : K.lookup f25 = some ⟨oc25, od25, .func (PySem.W.fnOf "things_meant" "things_meant" (defArgs s_things_meant) (defBody s_things_meant) (defScope s_things_meant) .none kV25 dc25 pm25 an25 cd25 ct25), sl25⟩) (c25 : PySem.W.codeIn K cd25 "things_meant" = true) (k25 : PySem.W.keepIn K (.ref f25) = true)
    (a26 : PySem.W.nsIn K mainGlobals "numbered" = some (some (.ref f26)))
    (l26 : K.lookup f26 = some ⟨oc26, od26, .func (PySem.W.fnOf "numbered" "numbered" (defArgs s_numbered) (defBody s_numbered) (defScope s_numbered) .none kV26 dc26 pm26 an26 cd26 ct26), sl26⟩) (c26 : PySem.W.codeIn K cd26 "numbered" = true) (k26 : PySem.W.keepIn K (.ref f26) = true)
    (a27 : PySem.W.nsIn K mainGlobals "spelled" = some (some (.ref f27)))
    (l27 : K.lookup f27 = some ⟨oc27, od27, .func (PySem.W.fnOf "spelled" "spelled" (defArgs s_spelled) (defBody s_spelled) (defScope s_spelled) .none kV27 dc27 pm27 an27 cd27 ct27), sl27⟩) (c27 : PySem.W.codeIn K cd27 "spelled" = true) (k27 : PySem.W.keepIn K (.ref f27) = true)
    (a28 : PySem.W.nsIn K mainGlobals "tell_doubles" = some (some (.ref f28)))
    (l28 : K.lookup f28 = some ⟨oc28, od28, .func (PySem.W.fnOf "tell_doubles" "tell_doubles" (defArgs s_tell_doubles) (defBody s_tell_doubles) (defScope s_tell_doubles) .none kV28 dc28 pm28 an28 cd28 ct28), sl28⟩) (c28 : PySem.W.codeIn K cd28 "tell_doubles" = true) (k28 : PySem.W.keepIn K (.ref f28) = true)
    (a29 : PySem.W.findIn K (.ref C_Mark) "__init__" = some (some (.ref f29))) (i29 : PySem.W.isFn K (.ref f29) = true)
    (l29 : K.lookup f29 = some ⟨oc29, od29, .func (PySem.W.fnOf "__init__" "Mark.__init__" (defArgs s_Mark_init) (defBody s_Mark_init) (defScope s_Mark_init) .none kV29 dc29 pm29 an29 cd29 ct29), sl29⟩) (c29 : PySem.W.codeIn K cd29 "Mark.__init__" = true) (k29 : PySem.W.keepIn K (.ref f29) = true)
    (a30 : PySem.W.nsIn K mainGlobals "longest_form_at" = some (some (.ref f30)))
    (l30 : K.lookup f30 = some ⟨oc30, od30, .func (PySem.W.fnOf "longest_form_at" "longest_form_at" (defArgs s_longest_form_at) (defBody s_longest_form_at) (defScope s_longest_form_at) .none kV30 dc30 pm30 an30 cd30 ct30), sl30⟩) (c30 : PySem.W.codeIn K cd30 "longest_form_at" = true) (k30 : PySem.W.keepIn K (.ref f30) = true)
    (a31 : PySem.W.nsIn K mainGlobals "find_marks" = some (some (.ref f31)))
    (l31 : K.lookup f31 = some ⟨oc31, od31, .func (PySem.W.fnOf "find_marks" "find_marks" (defArgs s_find_marks) (defBody s_find_marks) (defScope s_find_marks) .none kV31 dc31 pm31 an31 cd31 ct31), sl31⟩) (c31 : PySem.W.codeIn K cd31 "find_marks" = true) (k31 : PySem.W.keepIn K (.ref f31) = true)
    (a32 : PySem.W.nsIn K mainGlobals "tell_marks" = some (some (.ref f32)))
    (l32 : K.lookup f32 = some ⟨oc32, od32, .func (PySem.W.fnOf "tell_marks" "tell_marks" (defArgs s_tell_marks) (defBody s_tell_marks) (defScope s_tell_marks) .none kV32 dc32 pm32 an32 cd32 ct32), sl32⟩) (c32 : PySem.W.codeIn K cd32 "tell_marks" = true) (k32 : PySem.W.keepIn K (.ref f32) = true)
    (a33 : PySem.W.nsIn K mainGlobals "most_with_one_more" = some (some (.ref f33)))
    (l33 : K.lookup f33 = some ⟨oc33, od33, .func (PySem.W.fnOf "most_with_one_more" "most_with_one_more" (defArgs s_most_with_one_more) (defBody s_most_with_one_more) (defScope s_most_with_one_more) .none kV33 dc33 pm33 an33 cd33 ct33), sl33⟩) (c33 : PySem.W.codeIn K cd33 "most_with_one_more" = true) (k33 : PySem.W.keepIn K (.ref f33) = true)
    (a34 : PySem.W.nsIn K mainGlobals "most_from_each_on" = some (some (.ref f34)))
    (l34 : K.lookup f34 = some ⟨oc34, od34, .func (PySem.W.fnOf "most_from_each_on" "most_from_each_on" (defArgs s_most_from_each_on) (defBody s_most_from_each_on) (defScope s_most_from_each_on) .none kV34 dc34 pm34 an34 cd34 ct34), sl34⟩) (c34 : PySem.W.codeIn K cd34 "most_from_each_on" = true) (k34 : PySem.W.keepIn K (.ref f34) = true)
    (a35 : PySem.W.nsIn K mainGlobals "first_choice" = some (some (.ref f35)))
    (l35 : K.lookup f35 = some ⟨oc35, od35, .func (PySem.W.fnOf "first_choice" "first_choice" (defArgs s_first_choice) (defBody s_first_choice) (defScope s_first_choice) .none kV35 dc35 pm35 an35 cd35 ct35), sl35⟩) (c35 : PySem.W.codeIn K cd35 "first_choice" = true) (k35 : PySem.W.keepIn K (.ref f35) = true)
    (a36 : PySem.W.nsIn K mainGlobals "first_pairing" = some (some (.ref f36)))
    (l36 : K.lookup f36 = some ⟨oc36, od36, .func (PySem.W.fnOf "first_pairing" "first_pairing" (defArgs s_first_pairing) (defBody s_first_pairing) (defScope s_first_pairing) .none kV36 dc36 pm36 an36 cd36 ct36), sl36⟩) (c36 : PySem.W.codeIn K cd36 "first_pairing" = true) (k36 : PySem.W.keepIn K (.ref f36) = true)
    (a37 : PySem.W.nsIn K mainGlobals "serves_one_of" = some (some (.ref f37)))
    (l37 : K.lookup f37 = some ⟨oc37, od37, .func (PySem.W.fnOf "serves_one_of" "serves_one_of" (defArgs s_serves_one_of) (defBody s_serves_one_of) (defScope s_serves_one_of) .none kV37 dc37 pm37 an37 cd37 ct37), sl37⟩) (c37 : PySem.W.codeIn K cd37 "serves_one_of" = true) (k37 : PySem.W.keepIn K (.ref f37) = true)
    (a38 : PySem.W.nsIn K mainGlobals "forbidden_for_one_of" = some (some (.ref f38)))
    (l38 : K.lookup f38 = some ⟨oc38, od38, .func (PySem.W.fnOf "forbidden_for_one_of" "forbidden_for_one_of" (defArgs s_forbidden_for_one_of) (defBody s_forbidden_for_one_of) (defScope s_forbidden_for_one_of) .none kV38 dc38 pm38 an38 cd38 ct38), sl38⟩) (c38 : PySem.W.codeIn K cd38 "forbidden_for_one_of" = true) (k38 : PySem.W.keepIn K (.ref f38) = true)
    (a39 : PySem.W.nsIn K mainGlobals "partners_of" = some (some (.ref f39)))
    (l39 : K.lookup f39 = some ⟨oc39, od39, .func (PySem.W.fnOf "partners_of" "partners_of" (defArgs s_partners_of) (defBody s_partners_of) (defScope s_partners_of) .none kV39 dc39 pm39 an39 cd39 ct39), sl39⟩) (c39 : PySem.W.codeIn K cd39 "partners_of" = true) (k39 : PySem.W.keepIn K (.ref f39) = true)
    (a40 : PySem.W.nsIn K mainGlobals "is_wrong" = some (some (.ref f40)))
    (l40 : K.lookup f40 = some ⟨oc40, od40, .func (PySem.W.fnOf "is_wrong" "is_wrong" (defArgs s_is_wrong) (defBody s_is_wrong) (defScope s_is_wrong) .none kV40 dc40 pm40 an40 cd40 ct40), sl40⟩) (c40 : PySem.W.codeIn K cd40 "is_wrong" = true) (k40 : PySem.W.keepIn K (.ref f40) = true)
    (a41 : PySem.W.nsIn K mainGlobals "wrong_marks" = some (some (.ref f41)))
    (l41 : K.lookup f41 = some ⟨oc41, od41, .func (PySem.W.fnOf "wrong_marks" "wrong_marks" (defArgs s_wrong_marks) (defBody s_wrong_marks) (defScope s_wrong_marks) .none kV41 dc41 pm41 an41 cd41 ct41), sl41⟩) (c41 : PySem.W.codeIn K cd41 "wrong_marks" = true) (k41 : PySem.W.keepIn K (.ref f41) = true)
    (a42 : PySem.W.nsIn K mainGlobals "compare_marks" = some (some (.ref f42)))
    (l42 : K.lookup f42 = some ⟨oc42, od42, .func (PySem.W.fnOf "compare_marks" "compare_marks" (defArgs s_compare_marks) (defBody s_compare_marks) (defScope s_compare_marks) .none kV42 dc42 pm42 an42 cd42 ct42), sl42⟩) (c42 : PySem.W.codeIn K cd42 "compare_marks" = true) (k42 : PySem.W.keepIn K (.ref f42) = true)
    (a43 : PySem.W.nsIn K mainGlobals "check_translation" = some (some (.ref f43)))
    (l43 : K.lookup f43 = some ⟨oc43, od43, .func (PySem.W.fnOf "check_translation" "check_translation" (defArgs s_check_translation) (defBody s_check_translation) (defScope s_check_translation) .none kV43 dc43 pm43 an43 cd43 ct43), sl43⟩) (c43 : PySem.W.codeIn K cd43 "check_translation" = true) (k43 : PySem.W.keepIn K (.ref f43) = true)
    (a44 : PySem.W.nsIn K mainGlobals "thing_with_number" = some (some (.ref f44)))
    (l44 : K.lookup f44 = some ⟨oc44, od44, .func (PySem.W.fnOf "thing_with_number" "thing_with_number" (defArgs s_thing_with_number) (defBody s_thing_with_number) (defScope s_thing_with_number) .none kV44 dc44 pm44 an44 cd44 ct44), sl44⟩) (c44 : PySem.W.codeIn K cd44 "thing_with_number" = true) (k44 : PySem.W.keepIn K (.ref f44) = true)
    (a45 : PySem.W.nsIn K mainGlobals "tell_best" = some (some (.ref f45)))
    (l45 : K.lookup f45 = some ⟨oc45, od45, .func (PySem.W.fnOf "tell_best" "tell_best" (defArgs s_tell_best) (defBody s_tell_best) (defScope s_tell_best) .none kV45 dc45 pm45 an45 cd45 ct45), sl45⟩) (c45 : PySem.W.codeIn K cd45 "tell_best" = true) (k45 : PySem.W.keepIn K (.ref f45) = true)
    (a46 : PySem.W.nsIn K mainGlobals "tell_things" = some (some (.ref f46)))
    (l46 : K.lookup f46 = some ⟨oc46, od46, .func (PySem.W.fnOf "tell_things" "tell_things" (defArgs s_tell_things) (defBody s_tell_things) (defScope s_tell_things) .none kV46 dc46 pm46 an46 cd46 ct46), sl46⟩) (c46 : PySem.W.codeIn K cd46 "tell_things" = true) (k46 : PySem.W.keepIn K (.ref f46) = true)
    (a47 : PySem.W.nsIn K mainGlobals "tell_named" = some (some (.ref f47)))
    (l47 : K.lookup f47 = some ⟨oc47, od47, .func (PySem.W.fnOf "tell_named" "tell_named" (defArgs s_tell_named) (defBody s_tell_named) (defScope s_tell_named) .none kV47 dc47 pm47 an47 cd47 ct47), sl47⟩) (c47 : PySem.W.codeIn K cd47 "tell_named" = true) (k47 : PySem.W.keepIn K (.ref f47) = true)
    (a48 : PySem.W.nsIn K mainGlobals "answer_call" = some (some (.ref f48)))
    (l48 : K.lookup f48 = some ⟨oc48, od48, .func (PySem.W.fnOf "answer_call" "answer_call" (defArgs s_answer_call) (defBody s_answer_call) (defScope s_answer_call) .none kV48 dc48 pm48 an48 cd48 ct48), sl48⟩) (c48 : PySem.W.codeIn K cd48 "answer_call" = true) (k48 : PySem.W.keepIn K (.ref f48) = true)
    (a49 : PySem.W.nsIn K mainGlobals "answers" = some (some (.ref f49)))
    (l49 : K.lookup f49 = some ⟨oc49, od49, .func (PySem.W.fnOf "answers" "answers" (defArgs s_answers) (defBody s_answers) (defScope s_answers) .none kV49 dc49 pm49 an49 cd49 ct49), sl49⟩) (c49 : PySem.W.codeIn K cd49 "answers" = true) (k49 : PySem.W.keepIn K (.ref f49) = true)
    (ANumberReader : PySem.W.nsIn K mainGlobals "NumberReader" = some (some (.ref C_NumberReader)))
    (pgNumberReader : PySem.W.plainGet K C_NumberReader Str.empty = true) (hdNumberReader : PySem.W.hasDictIn K C_NumberReader = true) (poNumberReader : PySem.W.plainOver K C_NumberReader = true) (saNumberReader : PySem.W.findIn K (.ref C_NumberReader) "__setattr__" = some (some (.builtin "object.__setattr__"))) (mkNumberReader : PySem.W.makesIn K C_NumberReader = true) (kcNumberReader : PySem.W.keepIn K (.ref C_NumberReader) = true)
    (nNumberReader_numbers : PySem.W.findIn K (.ref C_NumberReader) "numbers" = some none)
    (nNumberReader_place : PySem.W.findIn K (.ref C_NumberReader) "place" = some none)
    (AThing : PySem.W.nsIn K mainGlobals "Thing" = some (some (.ref C_Thing)))
    (pgThing : PySem.W.plainGet K C_Thing Str.empty = true) (hdThing : PySem.W.hasDictIn K C_Thing = true) (poThing : PySem.W.plainOver K C_Thing = true) (saThing : PySem.W.findIn K (.ref C_Thing) "__setattr__" = some (some (.builtin "object.__setattr__"))) (mkThing : PySem.W.makesIn K C_Thing = true) (kcThing : PySem.W.keepIn K (.ref C_Thing) = true)
    (nThing_number : PySem.W.findIn K (.ref C_Thing) "number" = some none)
    (nThing_source_forms : PySem.W.findIn K (.ref C_Thing) "source_forms" = some none)
    (nThing_standings : PySem.W.findIn K (.ref C_Thing) "standings" = some none)
    (ATermList : PySem.W.nsIn K mainGlobals "TermList" = some (some (.ref C_TermList)))
    (pgTermList : PySem.W.plainGet K C_TermList Str.empty = true) (hdTermList : PySem.W.hasDictIn K C_TermList = true) (poTermList : PySem.W.plainOver K C_TermList = true) (saTermList : PySem.W.findIn K (.ref C_TermList) "__setattr__" = some (some (.builtin "object.__setattr__"))) (mkTermList : PySem.W.makesIn K C_TermList = true) (kcTermList : PySem.W.keepIn K (.ref C_TermList) = true)
    (nTermList_kept : PySem.W.findIn K (.ref C_TermList) "kept" = some none)
    (nTermList_kept_before : PySem.W.findIn K (.ref C_TermList) "kept_before" = some none)
    (nTermList_numbers_given : PySem.W.findIn K (.ref C_TermList) "numbers_given" = some none)
    (AMark : PySem.W.nsIn K mainGlobals "Mark" = some (some (.ref C_Mark)))
    (pgMark : PySem.W.plainGet K C_Mark Str.empty = true) (hdMark : PySem.W.hasDictIn K C_Mark = true) (poMark : PySem.W.plainOver K C_Mark = true) (saMark : PySem.W.findIn K (.ref C_Mark) "__setattr__" = some (some (.builtin "object.__setattr__"))) (mkMark : PySem.W.makesIn K C_Mark = true) (kcMark : PySem.W.keepIn K (.ref C_Mark) = true)
    (nMark_begin : PySem.W.findIn K (.ref C_Mark) "begin" = some none)
    (nMark_end : PySem.W.findIn K (.ref C_Mark) "end" = some none)
    (nMark_form : PySem.W.findIn K (.ref C_Mark) "form" = some none)
    (NNOT_FITTING : PySem.W.nsIn K mainGlobals "NOT_FITTING" = some (some (.int 1 t_NOT_FITTING)))
    (NNO_SUCH_THING : PySem.W.nsIn K mainGlobals "NO_SUCH_THING" = some (some (.int 2 t_NO_SUCH_THING)))
    (NTOO_MANY_THINGS : PySem.W.nsIn K mainGlobals "TOO_MANY_THINGS" = some (some (.int 5 t_TOO_MANY_THINGS)))
    (NNO_RIGHT_FORM : PySem.W.nsIn K mainGlobals "NO_RIGHT_FORM" = some (some (.int 6 t_NO_RIGHT_FORM)))
    (NNOTHING_TO_UNDO : PySem.W.nsIn K mainGlobals "NOTHING_TO_UNDO" = some (some (.int 7 t_NOTHING_TO_UNDO)))
    (NHIGHEST_WORD : PySem.W.nsIn K mainGlobals "HIGHEST_WORD" = some (some (.int 999 t_HIGHEST_WORD)))
    (NMOST_FORM_WORDS : PySem.W.nsIn K mainGlobals "MOST_FORM_WORDS" = some (some (.int 4 t_MOST_FORM_WORDS)))
    (NMOST_SENTENCE_WORDS : PySem.W.nsIn K mainGlobals "MOST_SENTENCE_WORDS" = some (some (.int 16 t_MOST_SENTENCE_WORDS)))
    (NBEST : PySem.W.nsIn K mainGlobals "BEST" = some (some (.int 0 t_BEST)))
    (NALLOWED : PySem.W.nsIn K mainGlobals "ALLOWED" = some (some (.int 1 t_ALLOWED)))
    (NFORBIDDEN : PySem.W.nsIn K mainGlobals "FORBIDDEN" = some (some (.int 2 t_FORBIDDEN)))
    (NMOST_THINGS : PySem.W.nsIn K mainGlobals "MOST_THINGS" = some (some (.int 8 t_MOST_THINGS)))
    (NMOST_SOURCE_FORMS : PySem.W.nsIn K mainGlobals "MOST_SOURCE_FORMS" = some (some (.int 3 t_MOST_SOURCE_FORMS)))
    (NMOST_TARGET_FORMS : PySem.W.nsIn K mainGlobals "MOST_TARGET_FORMS" = some (some (.int 4 t_MOST_TARGET_FORMS)))
    (NMOST_CHECKED_MARKS : PySem.W.nsIn K mainGlobals "MOST_CHECKED_MARKS" = some (some (.int 7 t_MOST_CHECKED_MARKS)))
    (NTHING : PySem.W.nsIn K mainGlobals "THING" = some (some (.int 0 t_THING)))
    (NGONE : PySem.W.nsIn K mainGlobals "GONE" = some (some (.int 1 t_GONE)))
    (NMARKS : PySem.W.nsIn K mainGlobals "MARKS" = some (some (.int 2 t_MARKS)))
    (NCHECK : PySem.W.nsIn K mainGlobals "CHECK" = some (some (.int 3 t_CHECK)))
    (NDOUBLES : PySem.W.nsIn K mainGlobals "DOUBLES" = some (some (.int 4 t_DOUBLES)))
    (NBEST_FORM : PySem.W.nsIn K mainGlobals "BEST_FORM" = some (some (.int 5 t_BEST_FORM)))
    (NTHINGS : PySem.W.nsIn K mainGlobals "THINGS" = some (some (.int 6 t_THINGS)))
    (NUNDO : PySem.W.nsIn K mainGlobals "UNDO" = some (some (.int 7 t_UNDO)))
    (NNAMED : PySem.W.nsIn K mainGlobals "NAMED" = some (some (.int 8 t_NAMED)))
    (Zall : PySem.W.nsIn K mainGlobals "all" = some none)
    (Zany : PySem.W.nsIn K mainGlobals "any" = some none)
    (Zenumerate : PySem.W.nsIn K mainGlobals "enumerate" = some none)
    (Zlen : PySem.W.nsIn K mainGlobals "len" = some none)
    (Zlist : PySem.W.nsIn K mainGlobals "list" = some none)
    (Zmax : PySem.W.nsIn K mainGlobals "max" = some none)
    (Zmin : PySem.W.nsIn K mainGlobals "min" = some none)
    (Zrange : PySem.W.nsIn K mainGlobals "range" = some none)
    (Zreversed : PySem.W.nsIn K mainGlobals "reversed" = some none)
    (Zset : PySem.W.nsIn K mainGlobals "set" = some none)
    (Ztuple : PySem.W.nsIn K mainGlobals "tuple" = some none) :
    ∃ fd : FuncData, (∀ (s : Shared) (us : List Value), us.length = (["calls"] : List Str).length → BindsTo s fd ⟨us, []⟩ ((["calls"] : List Str).zip us)) ∧ ∀ base : Heap, K.In base → base.Ns mainGlobals mg → FnOk P w K mg base CX0 8 fa fd ["calls"] (sp_answers K) := by
  have e := hfa.symm.trans (PySem.W.mg_of X G a49)
  cases e
  have F0 := fun_mk (st := s_refusal) l0 c0 k0
  have b0 := F0.binds (ps := ["cause"]) fun _ _ _ _ _ _ us hl => match us, hl with | [_], _ => rfl
  have F1 := fun_mk (st := s_NumberReader_init) l1 c1 k1
  have b1 := F1.binds (ps := ["self", "numbers"]) fun _ _ _ _ _ _ us hl => match us, hl with | [_, _], _ => rfl
  have F2 := fun_mk (st := s_NumberReader_at_end) l2 c2 k2
  have b2 := F2.binds (ps := ["self"]) fun _ _ _ _ _ _ us hl => match us, hl with | [_], _ => rfl
  have F3 := fun_mk (st := s_NumberReader_take) l3 c3 k3
  have b3 := F3.binds (ps := ["self"]) fun _ _ _ _ _ _ us hl => match us, hl with | [_], _ => rfl
  have F4 := fun_mk (st := s_NumberReader_take_row) l4 c4 k4
  have b4 := F4.binds (ps := ["self"]) fun _ _ _ _ _ _ us hl => match us, hl with | [_], _ => rfl
  have F5 := fun_mk (st := s_words_fit) l5 c5 k5
  have b5 := F5.binds (ps := ["words"]) fun _ _ _ _ _ _ us hl => match us, hl with | [_], _ => rfl
  have F6 := fun_mk (st := s_is_form) l6 c6 k6
  have b6 := F6.binds (ps := ["words"]) fun _ _ _ _ _ _ us hl => match us, hl with | [_], _ => rfl
  have F7 := fun_mk (st := s_is_sentence) l7 c7 k7
  have b7 := F7.binds (ps := ["words"]) fun _ _ _ _ _ _ us hl => match us, hl with | [_], _ => rfl
  have F8 := fun_mk (st := s_Thing_init) l8 c8 k8
  have b8 := F8.binds (ps := ["self", "number", "source_forms", "target_pairs"]) fun _ _ _ _ _ _ us hl => match us, hl with | [_, _, _, _], _ => rfl
  have F9 := fun_mk (st := s_Thing_is_meant_by) l9 c9 k9
  have b9 := F9.binds (ps := ["self", "form"]) fun _ _ _ _ _ _ us hl => match us, hl with | [_, _], _ => rfl
  have F10 := fun_mk (st := s_Thing_is_served_by) l10 c10 k10
  have b10 := F10.binds (ps := ["self", "form"]) fun _ _ _ _ _ _ us hl => match us, hl with | [_, _], _ => rfl
  have F11 := fun_mk (st := s_Thing_forbids) l11 c11 k11
  have b11 := F11.binds (ps := ["self", "form"]) fun _ _ _ _ _ _ us hl => match us, hl with | [_, _], _ => rfl
  have F12 := fun_mk (st := s_Thing_target_forms_that_are) l12 c12 k12
  have b12 := F12.binds (ps := ["self", "standing"]) fun _ _ _ _ _ _ us hl => match us, hl with | [_, _], _ => rfl
  have F13 := fun_mk (st := s_TermList_init) l13 c13 k13
  have b13 := F13.binds (ps := ["self"]) fun _ _ _ _ _ _ us hl => match us, hl with | [_], _ => rfl
  have F14 := fun_mk (st := s_read_source_forms) l14 c14 k14
  have b14 := F14.binds (ps := ["reader"]) fun _ _ _ _ _ _ us hl => match us, hl with | [_], _ => rfl
  have F15 := fun_mk (st := s_read_target_forms) l15 c15 k15
  have b15 := F15.binds (ps := ["reader"]) fun _ _ _ _ _ _ us hl => match us, hl with | [_], _ => rfl
  have F16 := fun_mk (st := s_are_forms) l16 c16 k16
  have b16 := F16.binds (ps := ["forms"]) fun _ _ _ _ _ _ us hl => match us, hl with | [_], _ => rfl
  have F17 := fun_mk (st := s_source_forms_fit) l17 c17 k17
  have b17 := F17.binds (ps := ["forms"]) fun _ _ _ _ _ _ us hl => match us, hl with | [_], _ => rfl
  have F18 := fun_mk (st := s_target_forms_fit) l18 c18 k18
  have b18 := F18.binds (ps := ["pairs"]) fun _ _ _ _ _ _ us hl => match us, hl with | [_], _ => rfl
  have F19 := fun_mk (st := s_change_list) l19 c19 k19
  have b19 := F19.binds (ps := ["terms", "things"]) fun _ _ _ _ _ _ us hl => match us, hl with | [_, _], _ => rfl
  have F20 := fun_mk (st := s_add_thing) l20 c20 k20
  have b20 := F20.binds (ps := ["terms", "told"]) fun _ _ _ _ _ _ us hl => match us, hl with | [_, _], _ => rfl
  have F21 := fun_mk (st := s_drop_thing) l21 c21 k21
  have b21 := F21.binds (ps := ["terms", "number"]) fun _ _ _ _ _ _ us hl => match us, hl with | [_, _], _ => rfl
  have F22 := fun_mk (st := s_undo_change) l22 c22 k22
  have b22 := F22.binds (ps := ["terms"]) fun _ _ _ _ _ _ us hl => match us, hl with | [_], _ => rfl
  have F23 := fun_mk (st := s_all_source_forms) l23 c23 k23
  have b23 := F23.binds (ps := ["terms"]) fun _ _ _ _ _ _ us hl => match us, hl with | [_], _ => rfl
  have F24 := fun_mk (st := s_all_target_forms) l24 c24 k24
  have b24 := F24.binds (ps := ["terms"]) fun _ _ _ _ _ _ us hl => match us, hl with | [_], _ => rfl
  have F25 := fun_mk (st := s_things_meant) l25 c25 k25
  have b25 := F25.binds (ps := ["terms", "form"]) fun _ _ _ _ _ _ us hl => match us, hl with | [_, _], _ => rfl
  have F26 := fun_mk (st := s_numbered) l26 c26 k26
  have b26 := F26.binds (ps := ["things"]) fun _ _ _ _ _ _ us hl => match us, hl with | [_], _ => rfl
  have F27 := fun_mk (st := s_spelled) l27 c27 k27
  have b27 := F27.binds (ps := ["form"]) fun _ _ _ _ _ _ us hl => match us, hl with | [_], _ => rfl
  have F28 := fun_mk (st := s_tell_doubles) l28 c28 k28
  have b28 := F28.binds (ps := ["terms"]) fun _ _ _ _ _ _ us hl => match us, hl with | [_], _ => rfl
  have F29 := fun_mk (st := s_Mark_init) l29 c29 k29
  have b29 := F29.binds (ps := ["self", "begin", "form"]) fun _ _ _ _ _ _ us hl => match us, hl with | [_, _, _], _ => rfl
  have F30 := fun_mk (st := s_longest_form_at) l30 c30 k30
  have b30 := F30.binds (ps := ["sentence", "place", "forms"]) fun _ _ _ _ _ _ us hl => match us, hl with | [_, _, _], _ => rfl
  have F31 := fun_mk (st := s_find_marks) l31 c31 k31
  have b31 := F31.binds (ps := ["sentence", "forms"]) fun _ _ _ _ _ _ us hl => match us, hl with | [_, _], _ => rfl
  have F32 := fun_mk (st := s_tell_marks) l32 c32 k32
  have b32 := F32.binds (ps := ["terms", "sentence"]) fun _ _ _ _ _ _ us hl => match us, hl with | [_, _], _ => rfl
  have F33 := fun_mk (st := s_most_with_one_more) l33 c33 k33
  have b33 := F33.binds (ps := ["partners", "most_behind"]) fun _ _ _ _ _ _ us hl => match us, hl with | [_, _], _ => rfl
  have F34 := fun_mk (st := s_most_from_each_on) l34 c34 k34
  have b34 := F34.binds (ps := ["partner_lists", "target_count"]) fun _ _ _ _ _ _ us hl => match us, hl with | [_, _], _ => rfl
  have F35 := fun_mk (st := s_first_choice) l35 c35 k35
  have b35 := F35.binds (ps := ["partners", "taken", "most_here", "most_behind"]) fun _ _ _ _ _ _ us hl => match us, hl with | [_, _, _, _], _ => rfl
  have F36 := fun_mk (st := s_first_pairing) l36 c36 k36
  have b36 := F36.binds (ps := ["partner_lists", "target_count"]) fun _ _ _ _ _ _ us hl => match us, hl with | [_, _], _ => rfl
  have F37 := fun_mk (st := s_serves_one_of) l37 c37 k37
  have b37 := F37.binds (ps := ["things", "form"]) fun _ _ _ _ _ _ us hl => match us, hl with | [_, _], _ => rfl
  have F38 := fun_mk (st := s_forbidden_for_one_of) l38 c38 k38
  have b38 := F38.binds (ps := ["things", "form"]) fun _ _ _ _ _ _ us hl => match us, hl with | [_, _], _ => rfl
  have F39 := fun_mk (st := s_partners_of) l39 c39 k39
  have b39 := F39.binds (ps := ["things", "target_marks"]) fun _ _ _ _ _ _ us hl => match us, hl with | [_, _], _ => rfl
  have F40 := fun_mk (st := s_is_wrong) l40 c40 k40
  have b40 := F40.binds (ps := ["things", "form"]) fun _ _ _ _ _ _ us hl => match us, hl with | [_, _], _ => rfl
  have F41 := fun_mk (st := s_wrong_marks) l41 c41 k41
  have b41 := F41.binds (ps := ["meant_lists", "target_marks"]) fun _ _ _ _ _ _ us hl => match us, hl with | [_, _], _ => rfl
  have F42 := fun_mk (st := s_compare_marks) l42 c42 k42
  have b42 := F42.binds (ps := ["terms", "source_marks", "target_marks"]) fun _ _ _ _ _ _ us hl => match us, hl with | [_, _, _], _ => rfl
  have F43 := fun_mk (st := s_check_translation) l43 c43 k43
  have b43 := F43.binds (ps := ["terms", "sentence", "translation"]) fun _ _ _ _ _ _ us hl => match us, hl with | [_, _, _], _ => rfl
  have F44 := fun_mk (st := s_thing_with_number) l44 c44 k44
  have b44 := F44.binds (ps := ["terms", "number"]) fun _ _ _ _ _ _ us hl => match us, hl with | [_, _], _ => rfl
  have F45 := fun_mk (st := s_tell_best) l45 c45 k45
  have b45 := F45.binds (ps := ["terms", "number"]) fun _ _ _ _ _ _ us hl => match us, hl with | [_, _], _ => rfl
  have F46 := fun_mk (st := s_tell_things) l46 c46 k46
  have b46 := F46.binds (ps := ["terms"]) fun _ _ _ _ _ _ us hl => match us, hl with | [_], _ => rfl
  have F47 := fun_mk (st := s_tell_named) l47 c47 k47
  have b47 := F47.binds (ps := ["terms", "words"]) fun _ _ _ _ _ _ us hl => match us, hl with | [_, _], _ => rfl
  have F48 := fun_mk (st := s_answer_call) l48 c48 k48
  have b48 := F48.binds (ps := ["terms", "reader"]) fun _ _ _ _ _ _ us hl => match us, hl with | [_, _], _ => rfl
  have F49 := fun_mk (st := s_answers) l49 c49 k49
  have b49 := F49.binds (ps := ["calls"]) fun _ _ _ _ _ _ us hl => match us, hl with | [_], _ => rfl
  let T : Txt K mg := {
    f_refusal := f0, fd_refusal := _, F_refusal := F0, b_refusal := b0,
    g_refusal := PySem.W.mg_of X G a0,
    f_NumberReader_init := f1, fd_NumberReader_init := _, F_NumberReader_init := F1, b_NumberReader_init := b1,
    f_NumberReader_at_end := f2, fd_NumberReader_at_end := _, F_NumberReader_at_end := F2, b_NumberReader_at_end := b2,
    f_NumberReader_take := f3, fd_NumberReader_take := _, F_NumberReader_take := F3, b_NumberReader_take := b3,
    f_NumberReader_take_row := f4, fd_NumberReader_take_row := _, F_NumberReader_take_row := F4, b_NumberReader_take_row := b4,
    f_words_fit := f5, fd_words_fit := _, F_words_fit := F5, b_words_fit := b5,
    g_words_fit := PySem.W.mg_of X G a5,
    f_is_form := f6, fd_is_form := _, F_is_form := F6, b_is_form := b6,
    g_is_form := PySem.W.mg_of X G a6,
    f_is_sentence := f7, fd_is_sentence := _, F_is_sentence := F7, b_is_sentence := b7,
    g_is_sentence := PySem.W.mg_of X G a7,
    f_Thing_init := f8, fd_Thing_init := _, F_Thing_init := F8, b_Thing_init := b8,
    f_Thing_is_meant_by := f9, fd_Thing_is_meant_by := _, F_Thing_is_meant_by := F9, b_Thing_is_meant_by := b9,
    f_Thing_is_served_by := f10, fd_Thing_is_served_by := _, F_Thing_is_served_by := F10, b_Thing_is_served_by := b10,
    f_Thing_forbids := f11, fd_Thing_forbids := _, F_Thing_forbids := F11, b_Thing_forbids := b11,
    f_Thing_target_forms_that_are := f12, fd_Thing_target_forms_that_are := _, F_Thing_target_forms_that_are := F12, b_Thing_target_forms_that_are := b12,
    f_TermList_init := f13, fd_TermList_init := _, F_TermList_init := F13, b_TermList_init := b13,
    f_read_source_forms := f14, fd_read_source_forms := _, F_read_source_forms := F14, b_read_source_forms := b14,
    g_read_source_forms := PySem.W.mg_of X G a14,
    f_read_target_forms := f15, fd_read_target_forms := _, F_read_target_forms := F15, b_read_target_forms := b15,
    g_read_target_forms := PySem.W.mg_of X G a15,
    f_are_forms := f16, fd_are_forms := _, F_are_forms := F16, b_are_forms := b16,
    g_are_forms := PySem.W.mg_of X G a16,
    f_source_forms_fit := f17, fd_source_forms_fit := _, F_source_forms_fit := F17, b_source_forms_fit := b17,
    g_source_forms_fit := PySem.W.mg_of X G a17,
    f_target_forms_fit := f18, fd_target_forms_fit := _, F_target_forms_fit := F18, b_target_forms_fit := b18,
    g_target_forms_fit := PySem.W.mg_of X G a18,
    f_change_list := f19, fd_change_list := _, F_change_list := F19, b_change_list := b19,
    g_change_list := PySem.W.mg_of X G a19,
    f_add_thing := f20, fd_add_thing := _, F_add_thing := F20, b_add_thing := b20,
    g_add_thing := PySem.W.mg_of X G a20,
    f_drop_thing := f21, fd_drop_thing := _, F_drop_thing := F21, b_drop_thing := b21,
    g_drop_thing := PySem.W.mg_of X G a21,
    f_undo_change := f22, fd_undo_change := _, F_undo_change := F22, b_undo_change := b22,
    g_undo_change := PySem.W.mg_of X G a22,
    f_all_source_forms := f23, fd_all_source_forms := _, F_all_source_forms := F23, b_all_source_forms := b23,
    g_all_source_forms := PySem.W.mg_of X G a23,
    f_all_target_forms := f24, fd_all_target_forms := _, F_all_target_forms := F24, b_all_target_forms := b24,
    g_all_target_forms := PySem.W.mg_of X G a24,
    f_things_meant := f25, fd_things_meant := _, F_things_meant := F25, b_things_meant := b25,
    g_things_meant := PySem.W.mg_of X G a25,
    f_numbered := f26, fd_numbered := _, F_numbered := F26, b_numbered := b26,
    g_numbered := PySem.W.mg_of X G a26,
    f_spelled := f27, fd_spelled := _, F_spelled := F27, b_spelled := b27,
    g_spelled := PySem.W.mg_of X G a27,
    f_tell_doubles := f28, fd_tell_doubles := _, F_tell_doubles := F28, b_tell_doubles := b28,
    g_tell_doubles := PySem.W.mg_of X G a28,
    f_Mark_init := f29, fd_Mark_init := _, F_Mark_init := F29, b_Mark_init := b29,
    f_longest_form_at := f30, fd_longest_form_at := _, F_longest_form_at := F30, b_longest_form_at := b30,
    g_longest_form_at := PySem.W.mg_of X G a30,
    f_find_marks := f31, fd_find_marks := _, F_find_marks := F31, b_find_marks := b31,
    g_find_marks := PySem.W.mg_of X G a31,
    f_tell_marks := f32, fd_tell_marks := _, F_tell_marks := F32, b_tell_marks := b32,
    g_tell_marks := PySem.W.mg_of X G a32,
    f_most_with_one_more := f33, fd_most_with_one_more := _, F_most_with_one_more := F33, b_most_with_one_more := b33,
    g_most_with_one_more := PySem.W.mg_of X G a33,
    f_most_from_each_on := f34, fd_most_from_each_on := _, F_most_from_each_on := F34, b_most_from_each_on := b34,
    g_most_from_each_on := PySem.W.mg_of X G a34,
    f_first_choice := f35, fd_first_choice := _, F_first_choice := F35, b_first_choice := b35,
    g_first_choice := PySem.W.mg_of X G a35,
    f_first_pairing := f36, fd_first_pairing := _, F_first_pairing := F36, b_first_pairing := b36,
    g_first_pairing := PySem.W.mg_of X G a36,
    f_serves_one_of := f37, fd_serves_one_of := _, F_serves_one_of := F37, b_serves_one_of := b37,
    g_serves_one_of := PySem.W.mg_of X G a37,
    f_forbidden_for_one_of := f38, fd_forbidden_for_one_of := _, F_forbidden_for_one_of := F38, b_forbidden_for_one_of := b38,
    g_forbidden_for_one_of := PySem.W.mg_of X G a38,
    f_partners_of := f39, fd_partners_of := _, F_partners_of := F39, b_partners_of := b39,
    g_partners_of := PySem.W.mg_of X G a39,
    f_is_wrong := f40, fd_is_wrong := _, F_is_wrong := F40, b_is_wrong := b40,
    g_is_wrong := PySem.W.mg_of X G a40,
    f_wrong_marks := f41, fd_wrong_marks := _, F_wrong_marks := F41, b_wrong_marks := b41,
    g_wrong_marks := PySem.W.mg_of X G a41,
    f_compare_marks := f42, fd_compare_marks := _, F_compare_marks := F42, b_compare_marks := b42,
    g_compare_marks := PySem.W.mg_of X G a42,
    f_check_translation := f43, fd_check_translation := _, F_check_translation := F43, b_check_translation := b43,
    g_check_translation := PySem.W.mg_of X G a43,
    f_thing_with_number := f44, fd_thing_with_number := _, F_thing_with_number := F44, b_thing_with_number := b44,
    g_thing_with_number := PySem.W.mg_of X G a44,
    f_tell_best := f45, fd_tell_best := _, F_tell_best := F45, b_tell_best := b45,
    g_tell_best := PySem.W.mg_of X G a45,
    f_tell_things := f46, fd_tell_things := _, F_tell_things := F46, b_tell_things := b46,
    g_tell_things := PySem.W.mg_of X G a46,
    f_tell_named := f47, fd_tell_named := _, F_tell_named := F47, b_tell_named := b47,
    g_tell_named := PySem.W.mg_of X G a47,
    f_answer_call := f48, fd_answer_call := _, F_answer_call := F48, b_answer_call := b48,
    g_answer_call := PySem.W.mg_of X G a48,
    f_answers := fa, fd_answers := _, F_answers := F49, b_answers := b49,
    g_answers := PySem.W.mg_of X G a49,
    C_NumberReader := C_NumberReader, cl_NumberReader := ⟨pgNumberReader, hdNumberReader, poNumberReader, saNumberReader⟩, g_NumberReader := PySem.W.mg_of X G ANumberReader,
    mk_NumberReader := ⟨mkNumberReader, a1, i1, kcNumberReader⟩,
    n_NumberReader_numbers := nNumberReader_numbers,
    n_NumberReader_place := nNumberReader_place,
    m_NumberReader_at_end := ⟨a2, i2, k2⟩,
    m_NumberReader_take := ⟨a3, i3, k3⟩,
    m_NumberReader_take_row := ⟨a4, i4, k4⟩,
    C_Thing := C_Thing, cl_Thing := ⟨pgThing, hdThing, poThing, saThing⟩, g_Thing := PySem.W.mg_of X G AThing,
    mk_Thing := ⟨mkThing, a8, i8, kcThing⟩,
    n_Thing_number := nThing_number,
    n_Thing_source_forms := nThing_source_forms,
    n_Thing_standings := nThing_standings,
    m_Thing_is_meant_by := ⟨a9, i9, k9⟩,
    m_Thing_is_served_by := ⟨a10, i10, k10⟩,
    m_Thing_forbids := ⟨a11, i11, k11⟩,
    m_Thing_target_forms_that_are := ⟨a12, i12, k12⟩,
    C_TermList := C_TermList, cl_TermList := ⟨pgTermList, hdTermList, poTermList, saTermList⟩, g_TermList := PySem.W.mg_of X G ATermList,
    mk_TermList := ⟨mkTermList, a13, i13, kcTermList⟩,
    n_TermList_kept := nTermList_kept,
    n_TermList_kept_before := nTermList_kept_before,
    n_TermList_numbers_given := nTermList_numbers_given,
    C_Mark := C_Mark, cl_Mark := ⟨pgMark, hdMark, poMark, saMark⟩, g_Mark := PySem.W.mg_of X G AMark,
    mk_Mark := ⟨mkMark, a29, i29, kcMark⟩,
    n_Mark_begin := nMark_begin,
    n_Mark_end := nMark_end,
    n_Mark_form := nMark_form,
    t_NOT_FITTING := t_NOT_FITTING, g_NOT_FITTING := PySem.W.mg_of X G NNOT_FITTING,
    t_NO_SUCH_THING := t_NO_SUCH_THING, g_NO_SUCH_THING := PySem.W.mg_of X G NNO_SUCH_THING,
    t_TOO_MANY_THINGS := t_TOO_MANY_THINGS, g_TOO_MANY_THINGS := PySem.W.mg_of X G NTOO_MANY_THINGS,
    t_NO_RIGHT_FORM := t_NO_RIGHT_FORM, g_NO_RIGHT_FORM := PySem.W.mg_of X G NNO_RIGHT_FORM,
    t_NOTHING_TO_UNDO := t_NOTHING_TO_UNDO, g_NOTHING_TO_UNDO := PySem.W.mg_of X G NNOTHING_TO_UNDO,
    t_HIGHEST_WORD := t_HIGHEST_WORD, g_HIGHEST_WORD := PySem.W.mg_of X G NHIGHEST_WORD,
    t_MOST_FORM_WORDS := t_MOST_FORM_WORDS, g_MOST_FORM_WORDS := PySem.W.mg_of X G NMOST_FORM_WORDS,
    t_MOST_SENTENCE_WORDS := t_MOST_SENTENCE_WORDS, g_MOST_SENTENCE_WORDS := PySem.W.mg_of X G NMOST_SENTENCE_WORDS,
    t_BEST := t_BEST, g_BEST := PySem.W.mg_of X G NBEST,
    t_ALLOWED := t_ALLOWED, g_ALLOWED := PySem.W.mg_of X G NALLOWED,
    t_FORBIDDEN := t_FORBIDDEN, g_FORBIDDEN := PySem.W.mg_of X G NFORBIDDEN,
    t_MOST_THINGS := t_MOST_THINGS, g_MOST_THINGS := PySem.W.mg_of X G NMOST_THINGS,
    t_MOST_SOURCE_FORMS := t_MOST_SOURCE_FORMS, g_MOST_SOURCE_FORMS := PySem.W.mg_of X G NMOST_SOURCE_FORMS,
    t_MOST_TARGET_FORMS := t_MOST_TARGET_FORMS, g_MOST_TARGET_FORMS := PySem.W.mg_of X G NMOST_TARGET_FORMS,
    t_MOST_CHECKED_MARKS := t_MOST_CHECKED_MARKS, g_MOST_CHECKED_MARKS := PySem.W.mg_of X G NMOST_CHECKED_MARKS,
    t_THING := t_THING, g_THING := PySem.W.mg_of X G NTHING,
    t_GONE := t_GONE, g_GONE := PySem.W.mg_of X G NGONE,
    t_MARKS := t_MARKS, g_MARKS := PySem.W.mg_of X G NMARKS,
    t_CHECK := t_CHECK, g_CHECK := PySem.W.mg_of X G NCHECK,
    t_DOUBLES := t_DOUBLES, g_DOUBLES := PySem.W.mg_of X G NDOUBLES,
    t_BEST_FORM := t_BEST_FORM, g_BEST_FORM := PySem.W.mg_of X G NBEST_FORM,
    t_THINGS := t_THINGS, g_THINGS := PySem.W.mg_of X G NTHINGS,
    t_UNDO := t_UNDO, g_UNDO := PySem.W.mg_of X G NUNDO,
    t_NAMED := t_NAMED, g_NAMED := PySem.W.mg_of X G NNAMED,
    z_all := PySem.W.mg_none_of X G Zall,
    z_any := PySem.W.mg_none_of X G Zany,
    z_enumerate := PySem.W.mg_none_of X G Zenumerate,
    z_len := PySem.W.mg_none_of X G Zlen,
    z_list := PySem.W.mg_none_of X G Zlist,
    z_max := PySem.W.mg_none_of X G Zmax,
    z_min := PySem.W.mg_none_of X G Zmin,
    z_range := PySem.W.mg_none_of X G Zrange,
    z_reversed := PySem.W.mg_none_of X G Zreversed,
    z_set := PySem.W.mg_none_of X G Zset,
    z_tuple := PySem.W.mg_none_of X G Ztuple }
  exact ⟨_, fun s us hu => match us, hu with | [_], _ => .of_eq rfl, fun base _ _ => ok_answers T⟩
end Rn
open PySem PySem.W PyProof.Rows
set_option maxRecDepth 100000 in
set_option maxHeartbeats 0 in
theorem PySem.Challenge.cw_rightnames_s01_answers_holds : PySem.Challenge.rw_rightnames_s01_answers.Holds := by
  w_on; k_headS; (case hw => exact ⟨[.list [.int 4]], by decide +kernel, by decide +kernel⟩)
  k_fillS
  refine L2.walk_specK (r := PySem.Challenge.rw_rightnames_s01_answers) (k := 8) (CX := L2.CX0) (ps := ["calls"]) (sp := Rn.sp_answers) (by decide +kernel) rfl rfl ⟨rfl, by decide, by decide⟩ (fun w h Y => PySem.W.kIn_of Y) ?F ?S (fun _ _ _ _ z => z)
  case F =>
    intro w mg fa h Y KX G hmg
    refine' Rn.all_mk KX G hmg ?a0 ?l0 ?c0 ?k0 ?a1 ?i1 ?l1 ?c1 ?k1 ?a2 ?i2 ?l2 ?c2 ?k2 ?a3 ?i3 ?l3 ?c3 ?k3 ?a4 ?i4 ?l4 ?c4 ?k4 ?a5 ?l5 ?c5 ?k5 ?a6 ?l6 ?c6 ?k6 ?a7 ?l7 ?c7 ?k7 ?a8 ?i8 ?l8 ?c8 ?k8 ?a9 ?i9 ?l9 ?c9 ?k9 ?a10 ?i10 ?l10 ?c10 ?k10 ?a11 ?i11 ?l11 ?c11 ?k11 ?a12 ?i12 ?l12 ?c12 ?k12 ?a13 ?i13 ?l13 ?c13 ?k13 ?a14 ?l14 ?c14 ?k14 ?a15 ?l15 ?c15 ?k15 ?a16 ?l16 ?c16 ?k16 ?a17 ?l17 ?c17 ?k17 ?a18 ?l18 ?c18 ?k18 ?a19 ?l19 ?c19 ?k19 ?a20 ?l20 ?c20 ?k20 ?a21 ?l21 ?c21 ?k21 ?a22 ?l22 ?c22 ?k22 ?a23 ?l23 ?c23 ?k23 ?a24 ?l24 ?c24 ?k24 ?a25 ?l25 ?c25 ?k25 ?a26 ?l26 ?c26 ?k26 ?a27 ?l27 ?c27 ?k27 ?a28 ?l28 ?c28 ?k28 ?a29 ?i29 ?l29 ?c29 ?k29 ?a30 ?l30 ?c30 ?k30 ?a31 ?l31 ?c31 ?k31 ?a32 ?l32 ?c32 ?k32 ?a33 ?l33 ?c33 ?k33 ?a34 ?l34 ?c34 ?k34 ?a35 ?l35 ?c35 ?k35 ?a36 ?l36 ?c36 ?k36 ?a37 ?l37 ?c37 ?k37 ?a38 ?l38 ?c38 ?k38 ?a39 ?l39 ?c39 ?k39 ?a40 ?l40 ?c40 ?k40 ?a41 ?l41 ?c41 ?k41 ?a42 ?l42 ?c42 ?k42 ?a43 ?l43 ?c43 ?k43 ?a44 ?l44 ?c44 ?k44 ?a45 ?l45 ?c45 ?k45 ?a46 ?l46 ?c46 ?k46 ?a47 ?l47 ?c47 ?k47 ?a48 ?l48 ?c48 ?k48 ?a49 ?l49 ?c49 ?k49 ?ANumberReader ?pgNumberReader ?hdNumberReader ?poNumberReader ?saNumberReader ?mkNumberReader ?kcNumberReader ?nNumberReader_numbers ?nNumberReader_place ?AThing ?pgThing ?hdThing ?poThing ?saThing ?mkThing ?kcThing ?nThing_number ?nThing_source_forms ?nThing_standings ?ATermList ?pgTermList ?hdTermList ?poTermList ?saTermList ?mkTermList ?kcTermList ?nTermList_kept ?nTermList_kept_before ?nTermList_numbers_given ?AMark ?pgMark ?hdMark ?poMark ?saMark ?mkMark ?kcMark ?nMark_begin ?nMark_end ?nMark_form ?NNOT_FITTING ?NNO_SUCH_THING ?NTOO_MANY_THINGS ?NNO_RIGHT_FORM ?NNOTHING_TO_UNDO ?NHIGHEST_WORD ?NMOST_FORM_WORDS ?NMOST_SENTENCE_WORDS ?NBEST ?NALLOWED ?NFORBIDDEN ?NMOST_THINGS ?NMOST_SOURCE_FORMS ?NMOST_TARGET_FORMS ?NMOST_CHECKED_MARKS ?NTHING ?NGONE ?NMARKS ?NCHECK ?NDOUBLES ?NBEST_FORM ?NTHINGS ?NUNDO ?NNAMED ?Zall ?Zany ?Zenumerate ?Zlen ?Zlist ?Zmax ?Zmin ?Zrange ?Zreversed ?Zset ?Ztuple
    (case ANumberReader => k_is)
    (case AThing => k_is)
    (case ATermList => k_is)
    (case AMark => k_is)
    (case a0 => k_is)
    (case l0 => k_is)
    (case c0 => k_is)
    (case k0 => k_is)
    (case a1 => k_is)
    (case i1 => k_is)
    (case l1 => k_is)
    (case c1 => k_is)
    (case k1 => k_is)
    (case a2 => k_is)
    (case i2 => k_is)
    (case l2 => k_is)
    (case c2 => k_is)
    (case k2 => k_is)
    (case a3 => k_is)
    (case i3 => k_is)
    (case l3 => k_is)
    (case c3 => k_is)
    (case k3 => k_is)
    (case a4 => k_is)
    (case i4 => k_is)
    (case l4 => k_is)
    (case c4 => k_is)
    (case k4 => k_is)
    (case a5 => k_is)
    (case l5 => k_is)
    (case c5 => k_is)
    (case k5 => k_is)
    (case a6 => k_is)
    (case l6 => k_is)
    (case c6 => k_is)
    (case k6 => k_is)
    (case a7 => k_is)
    (case l7 => k_is)
    (case c7 => k_is)
    (case k7 => k_is)
    (case a8 => k_is)
    (case i8 => k_is)
    (case l8 => k_is)
    (case c8 => k_is)
    (case k8 => k_is)
    (case a9 => k_is)
    (case i9 => k_is)
    (case l9 => k_is)
    (case c9 => k_is)
    (case k9 => k_is)
    (case a10 => k_is)
    (case i10 => k_is)
    (case l10 => k_is)
    (case c10 => k_is)
    (case k10 => k_is)
    (case a11 => k_is)
    (case i11 => k_is)
    (case l11 => k_is)
    (case c11 => k_is)
    (case k11 => k_is)
    (case a12 => k_is)
    (case i12 => k_is)
    (case l12 => k_is)
    (case c12 => k_is)
    (case k12 => k_is)
    (case a13 => k_is)
    (case i13 => k_is)
    (case l13 => k_is)
    (case c13 => k_is)
    (case k13 => k_is)
    (case a14 => k_is)
    (case l14 => k_is)
    (case c14 => k_is)
    (case k14 => k_is)
    (case a15 => k_is)
    (case l15 => k_is)
    (case c15 => k_is)
    (case k15 => k_is)
    (case a16 => k_is)
    (case l16 => k_is)
    (case c16 => k_is)
    (case k16 => k_is)
    (case a17 => k_is)
    (case l17 => k_is)
    (case c17 => k_is)
    (case k17 => k_is)
    (case a18 => k_is)
    (case l18 => k_is)
    (case c18 => k_is)
    (case k18 => k_is)
    (case a19 => k_is)
    (case l19 => k_is)
    (case c19 => k_is)
    (case k19 => k_is)
    (case a20 => k_is)
    (case l20 => k_is)
    (case c20 => k_is)
    (case k20 => k_is)
    (case a21 => k_is)
    (case l21 => k_is)
    (case c21 => k_is)
    (case k21 => k_is)
    (case a22 => k_is)
    (case l22 => k_is)
    (case c22 => k_is)
    (case k22 => k_is)
    (case a23 => k_is)
    (case l23 => k_is)
    (case c23 => k_is)
    (case k23 => k_is)
    (case a24 => k_is)
    (case l24 => k_is)
    (case c24 => k_is)
    (case k24 => k_is)
    (case a25 => k_is)
    (case l25 => k_is)
    (case c25 => k_is)
    (case k25 => k_is)
    (case a26 => k_is)
    (case l26 => k_is)
    (case c26 => k_is)
    (case k26 => k_is)
    (case a27 => k_is)
    (case l27 => k_is)
    (case c27 => k_is)
    (case k27 => k_is)
    (case a28 => k_is)
    (case l28 => k_is)
    (case c28 => k_is)
    (case k28 => k_is)
    (case a29 => k_is)
    (case i29 => k_is)
    (case l29 => k_is)
    (case c29 => k_is)
    (case k29 => k_is)
    (case a30 => k_is)
    (case l30 => k_is)
    (case c30 => k_is)
    (case k30 => k_is)
    (case a31 => k_is)
    (case l31 => k_is)
    (case c31 => k_is)
    (case k31 => k_is)
    (case a32 => k_is)
    (case l32 => k_is)
    (case c32 => k_is)
    (case k32 => k_is)
    (case a33 => k_is)
    (case l33 => k_is)
    (case c33 => k_is)
    (case k33 => k_is)
    (case a34 => k_is)
    (case l34 => k_is)
    (case c34 => k_is)
    (case k34 => k_is)
    (case a35 => k_is)
    (case l35 => k_is)
    (case c35 => k_is)
    (case k35 => k_is)
    (case a36 => k_is)
    (case l36 => k_is)
    (case c36 => k_is)
    (case k36 => k_is)
    (case a37 => k_is)
    (case l37 => k_is)
    (case c37 => k_is)
    (case k37 => k_is)
    (case a38 => k_is)
    (case l38 => k_is)
    (case c38 => k_is)
    (case k38 => k_is)
    (case a39 => k_is)
    (case l39 => k_is)
    (case c39 => k_is)
    (case k39 => k_is)
    (case a40 => k_is)
    (case l40 => k_is)
    (case c40 => k_is)
    (case k40 => k_is)
    (case a41 => k_is)
    (case l41 => k_is)
    (case c41 => k_is)
    (case k41 => k_is)
    (case a42 => k_is)
    (case l42 => k_is)
    (case c42 => k_is)
    (case k42 => k_is)
    (case a43 => k_is)
    (case l43 => k_is)
    (case c43 => k_is)
    (case k43 => k_is)
    (case a44 => k_is)
    (case l44 => k_is)
    (case c44 => k_is)
    (case k44 => k_is)
    (case a45 => k_is)
    (case l45 => k_is)
    (case c45 => k_is)
    (case k45 => k_is)
    (case a46 => k_is)
    (case l46 => k_is)
    (case c46 => k_is)
    (case k46 => k_is)
    (case a47 => k_is)
    (case l47 => k_is)
    (case c47 => k_is)
    (case k47 => k_is)
    (case a48 => k_is)
    (case l48 => k_is)
    (case c48 => k_is)
    (case k48 => k_is)
    (case a49 => k_is)
    (case l49 => k_is)
    (case c49 => k_is)
    (case k49 => k_is)
    (case pgNumberReader => k_is)
    (case hdNumberReader => k_is)
    (case poNumberReader => k_is)
    (case saNumberReader => k_is)
    (case mkNumberReader => k_is)
    (case kcNumberReader => k_is)
    (case nNumberReader_numbers => k_is)
    (case nNumberReader_place => k_is)
    (case pgThing => k_is)
    (case hdThing => k_is)
    (case poThing => k_is)
    (case saThing => k_is)
    (case mkThing => k_is)
    (case kcThing => k_is)
    (case nThing_number => k_is)
    (case nThing_source_forms => k_is)
    (case nThing_standings => k_is)
    (case pgTermList => k_is)
    (case hdTermList => k_is)
    (case poTermList => k_is)
    (case saTermList => k_is)
    (case mkTermList => k_is)
    (case kcTermList => k_is)
    (case nTermList_kept => k_is)
    (case nTermList_kept_before => k_is)
    (case nTermList_numbers_given => k_is)
    (case pgMark => k_is)
    (case hdMark => k_is)
    (case poMark => k_is)
    (case saMark => k_is)
    (case mkMark => k_is)
    (case kcMark => k_is)
    (case nMark_begin => k_is)
    (case nMark_end => k_is)
    (case nMark_form => k_is)
    (case NNOT_FITTING => k_is)
    (case NNO_SUCH_THING => k_is)
    (case NTOO_MANY_THINGS => k_is)
    (case NNO_RIGHT_FORM => k_is)
    (case NNOTHING_TO_UNDO => k_is)
    (case NHIGHEST_WORD => k_is)
    (case NMOST_FORM_WORDS => k_is)
    (case NMOST_SENTENCE_WORDS => k_is)
    (case NBEST => k_is)
    (case NALLOWED => k_is)
    (case NFORBIDDEN => k_is)
    (case NMOST_THINGS => k_is)
    (case NMOST_SOURCE_FORMS => k_is)
    (case NMOST_TARGET_FORMS => k_is)
    (case NMOST_CHECKED_MARKS => k_is)
    (case NTHING => k_is)
    (case NGONE => k_is)
    (case NMARKS => k_is)
    (case NCHECK => k_is)
    (case NDOUBLES => k_is)
    (case NBEST_FORM => k_is)
    (case NTHINGS => k_is)
    (case NUNDO => k_is)
    (case NNAMED => k_is)
    (case Zall => k_is)
    (case Zany => k_is)
    (case Zenumerate => k_is)
    (case Zlen => k_is)
    (case Zlist => k_is)
    (case Zmax => k_is)
    (case Zmin => k_is)
    (case Zrange => k_is)
    (case Zreversed => k_is)
    (case Zset => k_is)
    (case Ztuple => k_is)

  case S =>
    intro K H xs a hO hwi hask hx
    cases hx with
    | cons h1 h2 =>
      cases h2
      cases h1 with
      | lst hs ha =>
        have e := L2.ints_dw a.1 _ ha
        subst e
        have q : ((Codec.inLen 0 2600 a.1 && a.1.all (Codec.inInt 0 4294967295)) && true) = true := hwi
        rw [Bool.and_eq_true, Bool.and_eq_true] at q
        exact ⟨_, a.1, rfl, hs, (Codec.inNat_iff.mp q.1.1).2, fun x hx => Codec.inInt_iff.mp (List.all_eq_true.mp q.1.2 x hx), hask, fun H' p hp => .lst (L2.SqL.of hp) (L2.dw_ints _)⟩
