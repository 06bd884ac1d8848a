import PyProof.Rows.All
import Wide.All
import OpenK.AllK
import Wide.FinOn
import KE.KStateDown
import Lean
import HandS.HeadHook2
import HandS.Words
import HandS.Defaults
import HandS.Base
import HandS.Call
import HandS.Ends
import HandS.More
import HandS.WordsExc
import HandS.Head0
import HandS.Head1
import HandS.Head2
import HandS.Head3
import HandS.Head4
import HandS.HeadEnd
import HandS.HeadHook1
import HandS.Spec
import FhRow
import HandS.ForMost
import HandS.ForSpec
import HandS.Flow
import HandS.SortInts
import HandS.SortRule
import HandS.Conv
import HandS.Wide
import HandS.DictEq
import HandS.SetKeys
import PyProof.DictMoreH
import OpenK.KEqL
import PyYqfhfa
import HandS.Zip
import HandS.TupLe
import PyProof.NeKinds
import FhWork
import HandS.Walk
import PyFlatLaws
import KE.OsGo
import PySem.Challenge.RW_ferryjournals_s01_answers
set_option Elab.async false
set_option linter.all false
/-! ## A dict of the top: ints to tuples of ints, told by a Bool -/
namespace Fj
open PySem PySem.Spec PyProof.Rows L2
def tupB' (K : PySem.W.Frag) (t : Addr) (ns : List Int) : Bool := match K.lookup t with
  | some ⟨.type c, _, .seq its _, _⟩ => decide (c = "tuple") && (decide (its.size ≤ sizeLine) && He.relAll (ns.map V.int) its.toList)
  | _ => false
def entB (K : PySem.W.Frag) (e : DictEntry) (r : Int × List Int) : Bool := match e.key, e.val with
  | .int i _, .ref t => decide (i = r.1) && (decide (e.hash = hashInt i) && tupB' K t r.2)
  | _, _ => false
def entsB (K : PySem.W.Frag) : List DictEntry → List (Int × List Int) → Bool
  | [], [] => true
  | e :: es, r :: rs => entB K e r && entsB K es rs
  | _, _ => false
def tabB (K : PySem.W.Frag) (a : Addr) (rs : List (Int × List Int)) : Bool := match K.lookup a with
  | some ⟨.type c, none, .dict es _, sl⟩ => decide (c = "dict") && (sl.isEmpty && entsB K es.toList rs)
  | _ => false
end Fj
set_option Elab.async false
set_option linter.all false
set_option maxRecDepth 100000
set_option maxHeartbeats 4000000
namespace Fj
open PySem PySem.Spec PyProof.Rows L2
def topS (i : Nat) : Stmt := PySem.Challenge.pw_ferryjournals_s01_answers.main.body.getD i (.Pass ⟨0, 0, 0, 0⟩)
abbrev s_stamp_number : Stmt := topS 12
abbrev s_tick_of : Stmt := topS 13
abbrev s_person_of : Stmt := topS 14
abbrev s_is_same : Stmt := topS 15
abbrev s_is_kind : Stmt := topS 16
abbrev s_state_may_be : Stmt := topS 17
abbrev s_over_may_be : Stmt := topS 18
abbrev s_is_rising : Stmt := topS 19
abbrev s_read_text : Stmt := topS 37
abbrev s_read_piece : Stmt := topS 38
abbrev s_read_braced : Stmt := topS 39
abbrev s_tag_kind : Stmt := topS 40
abbrev s_read_tag_number : Stmt := topS 41
abbrev s_tag_number_goes_on : Stmt := topS 42
abbrev s_read_character : Stmt := topS 43
abbrev s_length_by_lead : Stmt := topS 44
abbrev s_leads_to_character : Stmt := topS 45
abbrev s_first_character_from : Stmt := topS 46
abbrev s_shape_of : Stmt := topS 49
abbrev s_take_tag : Stmt := topS 50
abbrev s_take_close : Stmt := topS 51
abbrev s_stands_wrong : Stmt := topS 52
abbrev s_is_straight : Stmt := topS 53
abbrev s_fits : Stmt := topS 54
abbrev s_stamp_is_beyond : Stmt := topS 64
abbrev s_stamp_number_is_beyond : Stmt := topS 65
abbrev s_document_is_beyond : Stmt := topS 66
abbrev s_name_is_beyond : Stmt := topS 67
abbrev s_text_is_beyond : Stmt := topS 68
abbrev s_is_no_journal : Stmt := topS 69
abbrev s_are_no_two_journals : Stmt := topS 70
abbrev s_row_refusal : Stmt := topS 71
abbrev s_source_refusal : Stmt := topS 72
abbrev s_target_refusal : Stmt := topS 73
abbrev s_remark_refusal : Stmt := topS 74
abbrev s_put_refusal : Stmt := topS 75
abbrev s_records_by_segment : Stmt := topS 77
abbrev s_records_of : Stmt := topS 78
abbrev s_heads_of : Stmt := topS 79
abbrev s_remarks_of : Stmt := topS 80
abbrev s_in_conflict : Stmt := topS 81
abbrev s_standing : Stmt := topS 82
abbrev s_origin_of : Stmt := topS 83
abbrev s_approves_own : Stmt := topS 84
abbrev s_has_seen : Stmt := topS 85
abbrev s_write : Stmt := topS 87
abbrev s_rule : Stmt := topS 88
abbrev s_back : Stmt := topS 89
abbrev s_remark : Stmt := topS 90
abbrev s_some_head_is_late : Stmt := topS 91
abbrev s_stamps_over : Stmt := topS 92
abbrev s_enter : Stmt := topS 93
abbrev s_put : Stmt := topS 95
abbrev s_take_in : Stmt := topS 96
abbrev s_has_just : Stmt := topS 97
abbrev s_may_be_over : Stmt := topS 98
abbrev s_merge : Stmt := topS 99
abbrev s_lacks : Stmt := topS 100
abbrev s_tally : Stmt := topS 102
abbrev s_heads_in_document : Stmt := topS 103
abbrev s_standing_state : Stmt := topS 104
abbrev s_count_records : Stmt := topS 105
abbrev s_record_at : Stmt := topS 106
abbrev s_seen : Stmt := topS 107
abbrev s_stands : Stmt := topS 109
abbrev s_head : Stmt := topS 110
abbrev s_tell_head : Stmt := topS 111
abbrev s_said : Stmt := topS 112
abbrev s_next_segment : Stmt := topS 113
abbrev s_is_so : Stmt := topS 114
abbrev s_answers : Stmt := topS 131
abbrev s_answer_call : Stmt := topS 132
abbrev s_answer_entry : Stmt := topS 133
abbrev s_answer_question : Stmt := topS 134
abbrev s_answer_exchange : Stmt := topS 135
abbrev s_answer_overview : Stmt := topS 136
abbrev s_Record_init : Stmt := inClass (topS 10) 0
abbrev s_Journal_init : Stmt := inClass (topS 11) 0
abbrev s_Journal_has_stamp : Stmt := inClass (topS 11) 1
abbrev s_Journal_ordered : Stmt := inClass (topS 11) 2
abbrev s_Journal_has_room : Stmt := inClass (topS 11) 3
abbrev s_Journal_put_in : Stmt := inClass (topS 11) 4
abbrev s_Reading_init : Stmt := inClass (topS 36) 0
abbrev s_Shape_init : Stmt := inClass (topS 48) 0
def d_stamp_number : He.DefD := ⟨("stamp_number", none), "stamp_number", "stamp_number", defArgs s_stamp_number, defBody s_stamp_number, defScope s_stamp_number, [], []⟩
def d_tick_of : He.DefD := ⟨("tick_of", none), "tick_of", "tick_of", defArgs s_tick_of, defBody s_tick_of, defScope s_tick_of, [], []⟩
def d_person_of : He.DefD := ⟨("person_of", none), "person_of", "person_of", defArgs s_person_of, defBody s_person_of, defScope s_person_of, [], []⟩
def d_is_same : He.DefD := ⟨("is_same", none), "is_same", "is_same", defArgs s_is_same, defBody s_is_same, defScope s_is_same, [], []⟩
def d_is_kind : He.DefD := ⟨("is_kind", none), "is_kind", "is_kind", defArgs s_is_kind, defBody s_is_kind, defScope s_is_kind, [], []⟩
def d_state_may_be : He.DefD := ⟨("state_may_be", none), "state_may_be", "state_may_be", defArgs s_state_may_be, defBody s_state_may_be, defScope s_state_may_be, [], []⟩
def d_over_may_be : He.DefD := ⟨("over_may_be", none), "over_may_be", "over_may_be", defArgs s_over_may_be, defBody s_over_may_be, defScope s_over_may_be, [], []⟩
def d_is_rising : He.DefD := ⟨("is_rising", none), "is_rising", "is_rising", defArgs s_is_rising, defBody s_is_rising, defScope s_is_rising, [], []⟩
def d_read_text : He.DefD := ⟨("read_text", none), "read_text", "read_text", defArgs s_read_text, defBody s_read_text, defScope s_read_text, [], []⟩
def d_read_piece : He.DefD := ⟨("read_piece", none), "read_piece", "read_piece", defArgs s_read_piece, defBody s_read_piece, defScope s_read_piece, [], []⟩
def d_read_braced : He.DefD := ⟨("read_braced", none), "read_braced", "read_braced", defArgs s_read_braced, defBody s_read_braced, defScope s_read_braced, [], []⟩
def d_tag_kind : He.DefD := ⟨("tag_kind", none), "tag_kind", "tag_kind", defArgs s_tag_kind, defBody s_tag_kind, defScope s_tag_kind, [], []⟩
def d_read_tag_number : He.DefD := ⟨("read_tag_number", none), "read_tag_number", "read_tag_number", defArgs s_read_tag_number, defBody s_read_tag_number, defScope s_read_tag_number, [], []⟩
def d_tag_number_goes_on : He.DefD := ⟨("tag_number_goes_on", none), "tag_number_goes_on", "tag_number_goes_on", defArgs s_tag_number_goes_on, defBody s_tag_number_goes_on, defScope s_tag_number_goes_on, [], []⟩
def d_read_character : He.DefD := ⟨("read_character", none), "read_character", "read_character", defArgs s_read_character, defBody s_read_character, defScope s_read_character, [], []⟩
def d_length_by_lead : He.DefD := ⟨("length_by_lead", none), "length_by_lead", "length_by_lead", defArgs s_length_by_lead, defBody s_length_by_lead, defScope s_length_by_lead, [], []⟩
def d_leads_to_character : He.DefD := ⟨("leads_to_character", none), "leads_to_character", "leads_to_character", defArgs s_leads_to_character, defBody s_leads_to_character, defScope s_leads_to_character, [], []⟩
def d_first_character_from : He.DefD := ⟨("first_character_from", none), "first_character_from", "first_character_from", defArgs s_first_character_from, defBody s_first_character_from, defScope s_first_character_from, [], []⟩
def d_shape_of : He.DefD := ⟨("shape_of", none), "shape_of", "shape_of", defArgs s_shape_of, defBody s_shape_of, defScope s_shape_of, [], []⟩
def d_take_tag : He.DefD := ⟨("take_tag", none), "take_tag", "take_tag", defArgs s_take_tag, defBody s_take_tag, defScope s_take_tag, [], []⟩
def d_take_close : He.DefD := ⟨("take_close", none), "take_close", "take_close", defArgs s_take_close, defBody s_take_close, defScope s_take_close, [], []⟩
def d_stands_wrong : He.DefD := ⟨("stands_wrong", none), "stands_wrong", "stands_wrong", defArgs s_stands_wrong, defBody s_stands_wrong, defScope s_stands_wrong, [], []⟩
def d_is_straight : He.DefD := ⟨("is_straight", none), "is_straight", "is_straight", defArgs s_is_straight, defBody s_is_straight, defScope s_is_straight, [], []⟩
def d_fits : He.DefD := ⟨("fits", none), "fits", "fits", defArgs s_fits, defBody s_fits, defScope s_fits, [], []⟩
def d_stamp_is_beyond : He.DefD := ⟨("stamp_is_beyond", none), "stamp_is_beyond", "stamp_is_beyond", defArgs s_stamp_is_beyond, defBody s_stamp_is_beyond, defScope s_stamp_is_beyond, [], []⟩
def d_stamp_number_is_beyond : He.DefD := ⟨("stamp_number_is_beyond", none), "stamp_number_is_beyond", "stamp_number_is_beyond", defArgs s_stamp_number_is_beyond, defBody s_stamp_number_is_beyond, defScope s_stamp_number_is_beyond, [], []⟩
def d_document_is_beyond : He.DefD := ⟨("document_is_beyond", none), "document_is_beyond", "document_is_beyond", defArgs s_document_is_beyond, defBody s_document_is_beyond, defScope s_document_is_beyond, [], []⟩
def d_name_is_beyond : He.DefD := ⟨("name_is_beyond", none), "name_is_beyond", "name_is_beyond", defArgs s_name_is_beyond, defBody s_name_is_beyond, defScope s_name_is_beyond, [], []⟩
def d_text_is_beyond : He.DefD := ⟨("text_is_beyond", none), "text_is_beyond", "text_is_beyond", defArgs s_text_is_beyond, defBody s_text_is_beyond, defScope s_text_is_beyond, [], []⟩
def d_is_no_journal : He.DefD := ⟨("is_no_journal", none), "is_no_journal", "is_no_journal", defArgs s_is_no_journal, defBody s_is_no_journal, defScope s_is_no_journal, [], []⟩
def d_are_no_two_journals : He.DefD := ⟨("are_no_two_journals", none), "are_no_two_journals", "are_no_two_journals", defArgs s_are_no_two_journals, defBody s_are_no_two_journals, defScope s_are_no_two_journals, [], []⟩
def d_row_refusal : He.DefD := ⟨("row_refusal", none), "row_refusal", "row_refusal", defArgs s_row_refusal, defBody s_row_refusal, defScope s_row_refusal, [], []⟩
def d_source_refusal : He.DefD := ⟨("source_refusal", none), "source_refusal", "source_refusal", defArgs s_source_refusal, defBody s_source_refusal, defScope s_source_refusal, [], []⟩
def d_target_refusal : He.DefD := ⟨("target_refusal", none), "target_refusal", "target_refusal", defArgs s_target_refusal, defBody s_target_refusal, defScope s_target_refusal, [], []⟩
def d_remark_refusal : He.DefD := ⟨("remark_refusal", none), "remark_refusal", "remark_refusal", defArgs s_remark_refusal, defBody s_remark_refusal, defScope s_remark_refusal, [], []⟩
def d_put_refusal : He.DefD := ⟨("put_refusal", none), "put_refusal", "put_refusal", defArgs s_put_refusal, defBody s_put_refusal, defScope s_put_refusal, [], []⟩
def d_records_by_segment : He.DefD := ⟨("records_by_segment", none), "records_by_segment", "records_by_segment", defArgs s_records_by_segment, defBody s_records_by_segment, defScope s_records_by_segment, [], []⟩
def d_records_of : He.DefD := ⟨("records_of", none), "records_of", "records_of", defArgs s_records_of, defBody s_records_of, defScope s_records_of, [], []⟩
def d_heads_of : He.DefD := ⟨("heads_of", none), "heads_of", "heads_of", defArgs s_heads_of, defBody s_heads_of, defScope s_heads_of, [], []⟩
def d_remarks_of : He.DefD := ⟨("remarks_of", none), "remarks_of", "remarks_of", defArgs s_remarks_of, defBody s_remarks_of, defScope s_remarks_of, [], []⟩
def d_in_conflict : He.DefD := ⟨("in_conflict", none), "in_conflict", "in_conflict", defArgs s_in_conflict, defBody s_in_conflict, defScope s_in_conflict, [], []⟩
def d_standing : He.DefD := ⟨("standing", none), "standing", "standing", defArgs s_standing, defBody s_standing, defScope s_standing, [], []⟩
def d_origin_of : He.DefD := ⟨("origin_of", none), "origin_of", "origin_of", defArgs s_origin_of, defBody s_origin_of, defScope s_origin_of, [], []⟩
def d_approves_own : He.DefD := ⟨("approves_own", none), "approves_own", "approves_own", defArgs s_approves_own, defBody s_approves_own, defScope s_approves_own, [], []⟩
def d_has_seen : He.DefD := ⟨("has_seen", none), "has_seen", "has_seen", defArgs s_has_seen, defBody s_has_seen, defScope s_has_seen, [], []⟩
def d_write : He.DefD := ⟨("write", none), "write", "write", defArgs s_write, defBody s_write, defScope s_write, [], []⟩
def d_rule : He.DefD := ⟨("rule", none), "rule", "rule", defArgs s_rule, defBody s_rule, defScope s_rule, [], []⟩
def d_back : He.DefD := ⟨("back", none), "back", "back", defArgs s_back, defBody s_back, defScope s_back, [], []⟩
def d_remark : He.DefD := ⟨("remark", none), "remark", "remark", defArgs s_remark, defBody s_remark, defScope s_remark, [], []⟩
def d_some_head_is_late : He.DefD := ⟨("some_head_is_late", none), "some_head_is_late", "some_head_is_late", defArgs s_some_head_is_late, defBody s_some_head_is_late, defScope s_some_head_is_late, [], []⟩
def d_stamps_over : He.DefD := ⟨("stamps_over", none), "stamps_over", "stamps_over", defArgs s_stamps_over, defBody s_stamps_over, defScope s_stamps_over, [], []⟩
def d_enter : He.DefD := ⟨("enter", none), "enter", "enter", defArgs s_enter, defBody s_enter, defScope s_enter, [], []⟩
def d_put : He.DefD := ⟨("put", none), "put", "put", defArgs s_put, defBody s_put, defScope s_put, [], []⟩
def d_take_in : He.DefD := ⟨("take_in", none), "take_in", "take_in", defArgs s_take_in, defBody s_take_in, defScope s_take_in, [], []⟩
def d_has_just : He.DefD := ⟨("has_just", none), "has_just", "has_just", defArgs s_has_just, defBody s_has_just, defScope s_has_just, [], []⟩
def d_may_be_over : He.DefD := ⟨("may_be_over", none), "may_be_over", "may_be_over", defArgs s_may_be_over, defBody s_may_be_over, defScope s_may_be_over, [], []⟩
def d_merge : He.DefD := ⟨("merge", none), "merge", "merge", defArgs s_merge, defBody s_merge, defScope s_merge, [], []⟩
def d_lacks : He.DefD := ⟨("lacks", none), "lacks", "lacks", defArgs s_lacks, defBody s_lacks, defScope s_lacks, [], []⟩
def d_tally : He.DefD := ⟨("tally", none), "tally", "tally", defArgs s_tally, defBody s_tally, defScope s_tally, [], []⟩
def d_heads_in_document : He.DefD := ⟨("heads_in_document", none), "heads_in_document", "heads_in_document", defArgs s_heads_in_document, defBody s_heads_in_document, defScope s_heads_in_document, [], []⟩
def d_standing_state : He.DefD := ⟨("standing_state", none), "standing_state", "standing_state", defArgs s_standing_state, defBody s_standing_state, defScope s_standing_state, [], []⟩
def d_count_records : He.DefD := ⟨("count_records", none), "count_records", "count_records", defArgs s_count_records, defBody s_count_records, defScope s_count_records, [], []⟩
def d_record_at : He.DefD := ⟨("record_at", none), "record_at", "record_at", defArgs s_record_at, defBody s_record_at, defScope s_record_at, [], []⟩
def d_seen : He.DefD := ⟨("seen", none), "seen", "seen", defArgs s_seen, defBody s_seen, defScope s_seen, [], []⟩
def d_stands : He.DefD := ⟨("stands", none), "stands", "stands", defArgs s_stands, defBody s_stands, defScope s_stands, [], []⟩
def d_head : He.DefD := ⟨("head", none), "head", "head", defArgs s_head, defBody s_head, defScope s_head, [], []⟩
def d_tell_head : He.DefD := ⟨("tell_head", none), "tell_head", "tell_head", defArgs s_tell_head, defBody s_tell_head, defScope s_tell_head, [], []⟩
def d_said : He.DefD := ⟨("said", none), "said", "said", defArgs s_said, defBody s_said, defScope s_said, [], []⟩
def d_next_segment : He.DefD := ⟨("next_segment", none), "next_segment", "next_segment", defArgs s_next_segment, defBody s_next_segment, defScope s_next_segment, [], []⟩
def d_is_so : He.DefD := ⟨("is_so", none), "is_so", "is_so", defArgs s_is_so, defBody s_is_so, defScope s_is_so, [], []⟩
def d_answers : He.DefD := ⟨("answers", none), "answers", "answers", defArgs s_answers, defBody s_answers, defScope s_answers, [], []⟩
def d_answer_call : He.DefD := ⟨("answer_call", none), "answer_call", "answer_call", defArgs s_answer_call, defBody s_answer_call, defScope s_answer_call, [], []⟩
def d_answer_entry : He.DefD := ⟨("answer_entry", none), "answer_entry", "answer_entry", defArgs s_answer_entry, defBody s_answer_entry, defScope s_answer_entry, [], []⟩
def d_answer_question : He.DefD := ⟨("answer_question", none), "answer_question", "answer_question", defArgs s_answer_question, defBody s_answer_question, defScope s_answer_question, [], []⟩
def d_answer_exchange : He.DefD := ⟨("answer_exchange", none), "answer_exchange", "answer_exchange", defArgs s_answer_exchange, defBody s_answer_exchange, defScope s_answer_exchange, [], []⟩
def d_answer_overview : He.DefD := ⟨("answer_overview", none), "answer_overview", "answer_overview", defArgs s_answer_overview, defBody s_answer_overview, defScope s_answer_overview, [], []⟩
def d_Record_init : He.DefD := ⟨("Record", some "__init__"), "__init__", "Record.__init__", defArgs s_Record_init, defBody s_Record_init, defScope s_Record_init, [], []⟩
def d_Journal_init : He.DefD := ⟨("Journal", some "__init__"), "__init__", "Journal.__init__", defArgs s_Journal_init, defBody s_Journal_init, defScope s_Journal_init, [], []⟩
def d_Journal_has_stamp : He.DefD := ⟨("Journal", some "has_stamp"), "has_stamp", "Journal.has_stamp", defArgs s_Journal_has_stamp, defBody s_Journal_has_stamp, defScope s_Journal_has_stamp, [], []⟩
def d_Journal_ordered : He.DefD := ⟨("Journal", some "ordered"), "ordered", "Journal.ordered", defArgs s_Journal_ordered, defBody s_Journal_ordered, defScope s_Journal_ordered, [], []⟩
def d_Journal_has_room : He.DefD := ⟨("Journal", some "has_room"), "has_room", "Journal.has_room", defArgs s_Journal_has_room, defBody s_Journal_has_room, defScope s_Journal_has_room, [], []⟩
def d_Journal_put_in : He.DefD := ⟨("Journal", some "put_in"), "put_in", "Journal.put_in", defArgs s_Journal_put_in, defBody s_Journal_put_in, defScope s_Journal_put_in, [], []⟩
def d_Reading_init : He.DefD := ⟨("Reading", some "__init__"), "__init__", "Reading.__init__", defArgs s_Reading_init, defBody s_Reading_init, defScope s_Reading_init, [], []⟩
def d_Shape_init : He.DefD := ⟨("Shape", some "__init__"), "__init__", "Shape.__init__", defArgs s_Shape_init, defBody s_Shape_init, defScope s_Shape_init, [], []⟩
def fns0 : List He.DefD := [d_stamp_number, d_tick_of, d_person_of, d_is_same, d_is_kind, d_state_may_be, d_over_may_be, d_is_rising, d_read_text, d_read_piece, d_read_braced, d_tag_kind, d_read_tag_number, d_tag_number_goes_on, d_read_character, d_length_by_lead, d_leads_to_character, d_first_character_from, d_shape_of, d_take_tag]
def fns1 : List He.DefD := [d_take_close, d_stands_wrong, d_is_straight, d_fits, d_stamp_is_beyond, d_stamp_number_is_beyond, d_document_is_beyond, d_name_is_beyond, d_text_is_beyond, d_is_no_journal, d_are_no_two_journals, d_row_refusal, d_source_refusal, d_target_refusal, d_remark_refusal, d_put_refusal, d_records_by_segment, d_records_of, d_heads_of, d_remarks_of]
def fns2 : List He.DefD := [d_in_conflict, d_standing, d_origin_of, d_approves_own, d_has_seen, d_write, d_rule, d_back, d_remark, d_some_head_is_late, d_stamps_over, d_enter, d_put, d_take_in, d_has_just, d_may_be_over, d_merge, d_lacks, d_tally, d_heads_in_document]
def fns3 : List He.DefD := [d_standing_state, d_count_records, d_record_at, d_seen, d_stands, d_head, d_tell_head, d_said, d_next_segment, d_is_so, d_answers, d_answer_call, d_answer_entry, d_answer_question, d_answer_exchange, d_answer_overview, d_Record_init, d_Journal_init, d_Journal_has_stamp, d_Journal_ordered]
def fns4 : List He.DefD := [d_Journal_has_room, d_Journal_put_in, d_Reading_init, d_Shape_init]
def fns : List He.DefD := fns0 ++ fns1 ++ fns2 ++ fns3 ++ fns4
def fas0 : List He.Fa := [.glo "stamp_number", .glo "tick_of", .glo "person_of", .glo "is_same", .glo "is_kind", .glo "state_may_be", .glo "over_may_be", .glo "is_rising", .glo "read_text", .glo "read_piece", .glo "read_braced", .glo "tag_kind", .glo "read_tag_number", .glo "tag_number_goes_on", .glo "read_character", .glo "length_by_lead", .glo "leads_to_character", .glo "first_character_from", .glo "shape_of", .glo "take_tag"]
def fas1 : List He.Fa := [.glo "take_close", .glo "stands_wrong", .glo "is_straight", .glo "fits", .glo "stamp_is_beyond", .glo "stamp_number_is_beyond", .glo "document_is_beyond", .glo "name_is_beyond", .glo "text_is_beyond", .glo "is_no_journal", .glo "are_no_two_journals", .glo "row_refusal", .glo "source_refusal", .glo "target_refusal", .glo "remark_refusal", .glo "put_refusal", .glo "records_by_segment", .glo "records_of", .glo "heads_of", .glo "remarks_of"]
def fas2 : List He.Fa := [.glo "in_conflict", .glo "standing", .glo "origin_of", .glo "approves_own", .glo "has_seen", .glo "write", .glo "rule", .glo "back", .glo "remark", .glo "some_head_is_late", .glo "stamps_over", .glo "enter", .glo "put", .glo "take_in", .glo "has_just", .glo "may_be_over", .glo "merge", .glo "lacks", .glo "tally", .glo "heads_in_document"]
def fas3 : List He.Fa := [.glo "standing_state", .glo "count_records", .glo "record_at", .glo "seen", .glo "stands", .glo "head", .glo "tell_head", .glo "said", .glo "next_segment", .glo "is_so", .glo "answers", .glo "answer_call", .glo "answer_entry", .glo "answer_question", .glo "answer_exchange", .glo "answer_overview", .glo "Record", .cls "Record", .mkr "Record", .noat "Record" "stamp"]
def fas4 : List He.Fa := [.noat "Record" "kind", .noat "Record" "name", .noat "Record" "state", .noat "Record" "over", .noat "Record" "source", .noat "Record" "row", .noat "Record" "size", .glo "Journal", .cls "Journal", .mkr "Journal", .meth "Journal" "has_stamp", .meth "Journal" "ordered", .meth "Journal" "has_room", .meth "Journal" "put_in", .noat "Journal" "records", .glo "Reading", .cls "Reading", .mkr "Reading", .noat "Reading" "text", .noat "Reading" "pieces"]
def fas5 : List He.Fa := [.noat "Reading" "starts", .noat "Reading" "fault", .glo "Shape", .cls "Shape", .mkr "Shape", .noat "Shape" "straight", .noat "Shape" "tags", .noat "Shape" "lefts", .noat "Shape" "pile", .int "TARGET" 1, .int "VERDICT" 2, .int "TAKING_BACK" 3, .int "REMARK_records" 4, .int "APPROVED" 4, .int "PERSONS" 256, .int "MOST_OVER" 16, .int "MOST_RECORDS" 256, .int "MOST_PIECES" 16384, .int "CHARACTER" 0, .int "OPENING" 1]
def fas6 : List He.Fa := [.int "CLOSING" 2, .int "ALONE" 3, .int "BRACE" 123, .int "BRACE_END" 125, .int "PLUS" 43, .int "MINUS" 45, .int "POINT" 46, .int "NOUGHT" 48, .int "NINE" 57, .int "GREATEST_TAG" 999, .int "GREATEST_CHARACTER" 1114111, .int "LAST_JOURNAL" 2, .int "LAST_PERSON" 255, .int "TICKS" 1099511627776, .int "STAMPS" 281474976710656, .int "LAST_DOCUMENT" 15, .int "LAST_SEGMENT" 65535, .int "LONGEST_TEXT" 65536, .int "LONGEST_ROW" 4096, .int "WRITE" 1]
def fas7 : List He.Fa := [.int "RULE" 2, .int "BACK" 3, .int "REMARK_journals" 4, .int "STANDS" 5, .int "HEAD" 6, .int "SAID" 7, .int "NEXT" 8, .int "TALLY" 9, .int "COUNT" 10, .int "RECORD" 11, .int "PUT" 12, .int "MERGE" 13, .int "LACKS" 14, .glo "LEAD_MARKS", .glo "LEAST_NUMBERS", .glo "FORMS", .free "all", .free "range", .free "zip", .free "any"]
def fas8 : List He.Fa := [.free "enumerate", .free "sorted", .free "len", .free "max", .free "min", .free "sum"]
def fas : List He.Fa := fas0 ++ fas1 ++ fas2 ++ fas3 ++ fas4 ++ fas5 ++ fas6 ++ fas7 ++ fas8
def loose0 : List PySem.Str := ["TARGET", "VERDICT", "TAKING_BACK", "REMARK_records", "APPROVED", "PERSONS", "MOST_OVER", "MOST_RECORDS", "MOST_PIECES", "Record", "Journal", "stamp_number", "tick_of", "person_of", "is_same", "is_kind", "state_may_be", "over_may_be", "is_rising", "CHARACTER"]
def loose1 : List PySem.Str := ["OPENING", "CLOSING", "ALONE", "BRACE", "BRACE_END", "PLUS", "MINUS", "POINT", "NOUGHT", "NINE", "GREATEST_TAG", "GREATEST_CHARACTER", "LEAD_MARKS", "LEAST_NUMBERS", "Reading", "read_text", "read_piece", "read_braced", "tag_kind", "read_tag_number"]
def loose2 : List PySem.Str := ["tag_number_goes_on", "read_character", "length_by_lead", "leads_to_character", "first_character_from", "Shape", "shape_of", "take_tag", "take_close", "stands_wrong", "is_straight", "fits", "LAST_JOURNAL", "LAST_PERSON", "TICKS", "STAMPS", "LAST_DOCUMENT", "LAST_SEGMENT", "LONGEST_TEXT", "LONGEST_ROW"]
def loose3 : List PySem.Str := ["stamp_is_beyond", "stamp_number_is_beyond", "document_is_beyond", "name_is_beyond", "text_is_beyond", "is_no_journal", "are_no_two_journals", "row_refusal", "source_refusal", "target_refusal", "remark_refusal", "put_refusal", "records_by_segment", "records_of", "heads_of", "remarks_of", "in_conflict", "standing", "origin_of", "approves_own"]
def loose4 : List PySem.Str := ["has_seen", "write", "rule", "back", "remark", "some_head_is_late", "stamps_over", "enter", "put", "take_in", "has_just", "may_be_over", "merge", "lacks", "tally", "heads_in_document", "standing_state", "count_records", "record_at", "seen"]
def loose5 : List PySem.Str := ["stands", "head", "tell_head", "said", "next_segment", "is_so", "WRITE", "RULE", "BACK", "REMARK_journals", "STANDS", "HEAD", "SAID", "NEXT", "TALLY", "COUNT", "RECORD", "PUT", "MERGE", "LACKS"]
def loose6 : List PySem.Str := ["FORMS", "answer_call", "answer_entry", "answer_question", "answer_exchange", "answer_overview"]
def loose : List PySem.Str := loose0 ++ loose1 ++ loose2 ++ loose3 ++ loose4 ++ loose5 ++ loose6
def tab_FORMS : List (Int × List Int) := [(1, [6, 2]), (2, [6, 0]), (3, [5, 0]), (4, [5, 1]), (5, [4, 0]), (6, [5, 0]), (7, [4, 0]), (8, [4, 0]), (9, [2, 0]), (10, [1, 0]), (11, [3, 0]), (12, [6, 3]), (13, [2, 0]), (14, [2, 0]), (15, [3, 0])]
def exB (K : PySem.W.Frag) : Bool := He.tupB K "LEAD_MARKS" [.int 0, .int 0, .int 192, .int 224, .int 240] && He.tupB K "LEAST_NUMBERS" [.int 0, .int 0, .int 128, .int 2048, .int 65536] && tabB K (He.ga K "FORMS") tab_FORMS
end Fj
set_option Elab.async false
set_option linter.all false
set_option maxRecDepth 100000
set_option maxHeartbeats 0
namespace Fj
open PySem PySem.Spec PyProof.Rows L2
abbrev Rw : PySem.W.OpenSpec := PySem.Challenge.rw_ferryjournals_s01_answers
abbrev Vw : Program := PySem.W.view Rw.prog [131]
/-- the head's facts, and those of the top's tuples and tables -/
def refsX (g : Addr → Option Obj) (a : Addr) : List Addr := match g a with
  | some o => He.refsD o
  | none => []
/-- what the module's names reach, from one step's ends to the next -/
def reach (g : Addr → Option Obj) : Nat → List Addr → List Addr
  | 0, _ => []
  | n + 1, as => as ++ reach g n (as.flatMap (refsX g))
def asX (g : Addr → Option Obj) : List Addr := reach g 5 [mainGlobals]
def obX (g : Addr → Option Obj) : He.AlD × Bool := (He.obsD fas fns (He.frG g (asX g)), exB (He.frG g (asX g)))
def hkX : PySem.W.Hook where
  α := He.AlD × Bool
  obs := fun s => obX s.heap.get?
  val := fun _ => (He.valD fns, true)
  says := fun _ h => ∃ K : PySem.W.Frag, K.In h ∧ (He.SaysD fas fns K ∧ exB K = true)
  of := fun _ s e => ⟨He.frG s.heap.get? (asX s.heap.get?), He.frG_in, congrArg (fun z : He.AlD × Bool => z.1) e, congrArg (fun z : He.AlD × Bool => z.2) e⟩
  keeps := fun _ _ _ ⟨K, hK, c⟩ k => ⟨K, PySem.W.Frag.In.keeps hK k, c⟩
def ob (s : PySem.W.SharedT) : He.AlD × Bool := obX (HandSHeadRun.getT s)
theorem ob_eq (s : PySem.W.SharedT) : ob s = hkX.obs s.abs := by
  have e : HandSHeadRun.getT s = s.abs.heap.get? := funext (HandSHeadRun.getT_eq s)
  show obX _ = obX _
  rw [e]
open HandSHeadRun PySem.W
noncomputable abbrev endS (w : World) (os : OsState) := endF (stepQ (denQ tabQ) Rw.prog w) 9000 Rw.prog w os
theorem join2 {σ α β γ : Type} {o : Option σ} {f : σ → α} {g : σ → β} {h : σ → γ} {a : α} {b : β} {c : γ} (h0 : o.map (fun s => (f s, g s)) = some (a, b)) (h1 : o.map (fun s => h s) = some c) :
    o.map (fun s => (f s, g s, h s)) = some (a, b, c) := by
  cases o with
  | none => cases h0
  | some s =>
    simp only [Option.map_some, Option.some.injEq, Prod.mk.injEq] at *
    exact ⟨h0.1, h0.2, h1⟩
end Fj
set_option Elab.async false
set_option linter.all false
set_option maxRecDepth 100000
set_option maxHeartbeats 0
namespace Fj
open PySem PySem.Spec PyProof.Rows L2
open HandSHeadRun PySem.W
theorem h0f (w : World) (os : OsState) : (endS (w.withFollow "special-get-raises" false) os).map (fun s => (looksF Rw.prog (boot_heap (w.withFollow "special-get-raises" false).params) s.abs, seenQ Vw loose (importedModules Rw.prog.main.body) (fun s => xlAt Vw [] s && recOk [] s) s.abs)) = some ((true, openGood Vw loose)) := by kernel_rfl
end Fj
set_option Elab.async false
set_option linter.all false
set_option maxRecDepth 100000
set_option maxHeartbeats 0
namespace Fj
open PySem PySem.Spec PyProof.Rows L2
open HandSHeadRun PySem.W
theorem h1f (w : World) (os : OsState) : (endS (w.withFollow "special-get-raises" false) os).map (fun s => ob s) = some ((He.valD fns, true)) := by kernel_rfl
end Fj
set_option Elab.async false
set_option linter.all false
set_option maxRecDepth 100000
set_option maxHeartbeats 0
namespace Fj
open PySem PySem.Spec PyProof.Rows L2
open HandSHeadRun PySem.W
theorem h0t (w : World) (os : OsState) : (endS (w.withFollow "special-get-raises" true) os).map (fun s => (looksF Rw.prog (boot_heap (w.withFollow "special-get-raises" true).params) s.abs, seenQ Vw loose (importedModules Rw.prog.main.body) (fun s => xlAt Vw [] s && recOk [] s) s.abs)) = some ((true, openGood Vw loose)) := by kernel_rfl
end Fj
set_option Elab.async false
set_option linter.all false
set_option maxRecDepth 100000
set_option maxHeartbeats 0
namespace Fj
open PySem PySem.Spec PyProof.Rows L2
open HandSHeadRun PySem.W
theorem h1t (w : World) (os : OsState) : (endS (w.withFollow "special-get-raises" true) os).map (fun s => ob s) = some ((He.valD fns, true)) := by kernel_rfl
end Fj
set_option Elab.async false
set_option linter.all false
set_option maxRecDepth 100000
set_option maxHeartbeats 0
namespace Fj
open PySem PySem.Spec PyProof.Rows L2
open HandSHeadRun PySem.W
theorem run (w : World) : RunEqS Rw Vw hkX ob 9000 loose w := by
  refine byRow2 "special-get-raises" (P := fun w => RunEqS Rw Vw hkX ob 9000 loose w) (fun w os => ?_) (fun w os => ?_) w
  · exact join2 (h0f w os) (h1f w os)
  · exact join2 (h0t w os) (h1t w os)
end Fj
set_option linter.all false
namespace Fj
open Fh
/-! ## Characters -/
/-- what the program asks: some character goes on from these bits -/
def leads (v n m : Nat) : Bool := decide (nextChar (max (v * 64 ^ m) (leastOf n)) ≤ min (v * 64 ^ m + (64 ^ m - 1)) 0x10FFFF)
theorem byte_lt (c : UInt8) : c.toNat < 256 := UInt8.toNat_lt c
theorem byte_of (c : UInt8) : UInt8.ofNat c.toNat = c := by simp
/-- bounds of what k bytes of n tell -/
def VB (n k v : Nat) : Prop := v < (if n = 1 then 128 else if n = 2 then 32 else if n = 3 then 16 else 8) * 64 ^ (k - 1)
theorem leads_eq {n k m v : Nat} (hn : 1 ≤ n) (hn4 : n ≤ 4) (hk : 1 ≤ k) (hm : k + m = n) (hb : VB n k v) : leads v n m = mayBe n k v := by
  have hm2 : n - k = m := by omega
  unfold leads mayBe
  rw [hm2]
  unfold VB at hb
  have h4 : n = 1 ∨ n = 2 ∨ n = 3 ∨ n = 4 := by omega
  rcases h4 with rfl | rfl | rfl | rfl
  · obtain ⟨rfl, rfl⟩ : k = 1 ∧ m = 0 := by omega
    simp only [mostOf] at *
    have : v < 128 := by simpa using hb
    congr 1; simp only [eq_iff_iff]; simp; omega
  · have : (k = 1 ∧ m = 1) ∨ (k = 2 ∧ m = 0) := by omega
    rcases this with ⟨rfl, rfl⟩ | ⟨rfl, rfl⟩ <;> simp [mostOf] at * <;> omega
  · have : (k = 1 ∧ m = 2) ∨ (k = 2 ∧ m = 1) ∨ (k = 3 ∧ m = 0) := by omega
    rcases this with ⟨rfl, rfl⟩ | ⟨rfl, rfl⟩ | ⟨rfl, rfl⟩ <;> simp [mostOf] at * <;> omega
  · simp [mostOf]
theorem VB_head {n c : Nat} (hn : lengthBy c = n) (h0 : n ≠ 0) : VB n 1 (headOf n c) := by
  unfold VB headOf
  unfold lengthBy at hn
  simp only [Nat.sub_self, Nat.pow_zero, Nat.mul_one]
  split <;> rename_i h1
  · subst h1; split at hn <;> first | omega | (split at hn <;> first | omega | (split at hn <;> first | omega | (split at hn <;> first | omega | (split at hn <;> omega))))
  · split
    · omega
    · split <;> omega
theorem VB_next {n k v c : Nat} (hk : 1 ≤ k) (hn : k < n) (hb : VB n k v) : VB n (k + 1) (v * 64 + c % 64) := by
  unfold VB at *
  have e : (k + 1 - 1) = (k - 1) + 1 := by omega
  rw [e, Nat.pow_succ, ← Nat.mul_assoc]
  generalize (if n = 1 then 128 else if n = 2 then 32 else if n = 3 then 16 else 8) * 64 ^ (k - 1) = z at *
  omega
/-- the number that the first byte tells -/
theorem head_sub {n c : Nat} (hn : lengthBy c = n) (h0 : n ≠ 0) (hc : c < 256) :
    (if n = 1 then 0 else if n = 2 then 0xC0 else if n = 3 then 0xE0 else 0xF0) + headOf n c = c := by
  unfold lengthBy at hn
  unfold headOf
  by_cases h1 : c < 0x80
  · rw [if_pos h1] at hn; subst hn; simp
  rw [if_neg h1] at hn
  by_cases h2 : c < 0xC0
  · rw [if_pos h2] at hn; exact absurd hn.symm h0
  rw [if_neg h2] at hn
  by_cases h3 : c < 0xE0
  · rw [if_pos h3] at hn; subst hn; simp; omega
  rw [if_neg h3] at hn
  by_cases h4 : c < 0xF0
  · rw [if_pos h4] at hn; subst hn; simp; omega
  rw [if_neg h4] at hn
  by_cases h5 : c < 0xF8
  · rw [if_pos h5] at hn; subst hn; simp; omega
  · rw [if_neg h5] at hn; exact absurd hn.symm h0
theorem lengthBy_le (c : Nat) : lengthBy c ≤ 4 := by
  unfold lengthBy
  repeat (split <;> try omega)
/-- what charHere answers behind k bytes -/
def chrAt (n k v : Nat) (b : Bytes) : Except Nat (Nat × Nat) := match goOn (5 - k) n k v b with
  | .ok v => .ok (v, n)
  | .error k => .error k
theorem chr_zero {c : UInt8} {r : Bytes} (h : lengthBy c.toNat = 0) : charHere (c :: r) = .error 0 := by
  show (if _ then _ else _) = _
  rw [if_pos (.inl h)]
theorem chr_no {c : UInt8} {r : Bytes} (h : mayBe (lengthBy c.toNat) 1 (headOf (lengthBy c.toNat) c.toNat) = false) : charHere (c :: r) = .error 0 := by
  show (if _ then _ else _) = _
  rw [if_pos (.inr h)]
theorem chr_go {c : UInt8} {r : Bytes} (h0 : lengthBy c.toNat ≠ 0) (h : mayBe (lengthBy c.toNat) 1 (headOf (lengthBy c.toNat) c.toNat) = true) :
    charHere (c :: r) = chrAt (lengthBy c.toNat) 1 (headOf (lengthBy c.toNat) c.toNat) r := by
  show (if _ then _ else _) = _
  rw [if_neg (by rw [h]; simp [h0])]
  rfl
theorem chrAt_done {n v : Nat} {b : Bytes} (hn : n ≤ 4) : chrAt n n v b = .ok (v, n) := by
  unfold chrAt
  obtain ⟨f, hf⟩ : ∃ f, 5 - n = f + 1 := ⟨4 - n, by omega⟩
  rw [hf]
  simp [goOn]
theorem chrAt_nil {n k v : Nat} (hk : k < n) (hn : n ≤ 4) : chrAt n k v [] = .error k := by
  unfold chrAt
  obtain ⟨f, hf⟩ : ∃ f, 5 - k = f + 1 := ⟨4 - k, by omega⟩
  rw [hf]
  simp [goOn, Nat.ne_of_lt hk]
theorem chrAt_cons {n k v : Nat} {c : UInt8} {r : Bytes} (hk : k < n) (hn : n ≤ 4) :
    chrAt n k v (c :: r) = if c.toNat / 64 = 2 ∧ mayBe n (k + 1) (v * 64 + c.toNat % 64) = true then chrAt n (k + 1) (v * 64 + c.toNat % 64) r else .error k := by
  unfold chrAt
  obtain ⟨f, hf⟩ : ∃ f, 5 - k = f + 1 := ⟨4 - k, by omega⟩
  have hf2 : 5 - (k + 1) = f := by omega
  rw [hf, hf2]
  simp only [goOn, if_neg (Nat.ne_of_lt hk)]
  by_cases q : c.toNat / 64 = 2 ∧ mayBe n (k + 1) (v * 64 + c.toNat % 64) = true
  · rw [if_pos q, if_pos q]
  · rw [if_neg q, if_neg q]
theorem next_ge (c : Nat) : c ≤ nextChar c := by
  unfold nextChar
  repeat (split <;> try omega)
theorem mayBe_last {n v : Nat} (h : mayBe n n v = true) : leastOf n ≤ v ∧ v ≤ mostOf n := by
  unfold mayBe at h
  have h := of_decide_eq_true h
  simp only [Nat.sub_self, Nat.pow_zero, Nat.mul_one] at h
  have := next_ge (max v (leastOf n))
  omega
/-- bytes of a character read are its text -/
theorem chr_text {b : Bytes} {v n : Nat} (h : charHere b = .ok (v, n)) : utf8 v = b.take n ∧ 1 ≤ n ∧ n ≤ b.length ∧ (v = 123 → b.head? = some 123) := by
  cases b with
  | nil => cases h
  | cons c r =>
    by_cases h0 : lengthBy c.toNat = 0
    · rw [chr_zero h0] at h; cases h
    cases hm : mayBe (lengthBy c.toNat) 1 (headOf (lengthBy c.toNat) c.toNat) with
    | false => rw [chr_no hm] at h; cases h
    | true =>
      rw [chr_go h0 hm] at h
      have hs := head_sub rfl h0 (byte_lt c)
      have h4 := lengthBy_le c.toNat
      have hc : UInt8.ofNat c.toNat = c := byte_of c
      generalize hw : headOf (lengthBy c.toNat) c.toNat = w at *
      generalize hn : lengthBy c.toNat = m at *
      have hvb : VB m 1 w := by rw [← hw, ← hn]; exact VB_head rfl (by rw [hn]; exact h0)
      have hm4 : m = 1 ∨ m = 2 ∨ m = 3 ∨ m = 4 := by omega
      have cb := byte_lt c
      rcases hm4 with rfl | rfl | rfl | rfl
      · rw [chrAt_done (by omega)] at h
        obtain ⟨rfl, rfl⟩ : w = v ∧ 1 = n := by simpa using h
        have hw' : w = c.toNat := by simpa using hs
        have hl := mayBe_last hm
        simp [mostOf, leastOf] at hl
        refine ⟨?_, by omega, by simp, fun e => ?_⟩
        · unfold utf8
          rw [if_pos (by omega), hw', hc]
          simp
        · show some c = some 123
          rw [← hc, ← hw', e]
          rfl
      · cases r with
        | nil => rw [chrAt_nil (by omega) (by omega)] at h; cases h
        | cons c1 r =>
          rw [chrAt_cons (by omega) (by omega)] at h
          split at h
          · rename_i q
            rw [chrAt_done (by omega)] at h
            obtain ⟨rfl, rfl⟩ : w * 64 + c1.toNat % 64 = v ∧ 2 = n := by simpa using h
            have hl := mayBe_last q.2
            simp [mostOf, leastOf] at hl
            have b1 := byte_lt c1
            have hs' : 192 + w = c.toNat := by simpa using hs
            refine ⟨?_, by omega, by simp, fun e => by omega⟩
            unfold utf8
            rw [if_neg (by omega), if_pos (by omega)]
            have e1 : 192 + (w * 64 + c1.toNat % 64) / 64 = c.toNat := by omega
            have e2 : 128 + (w * 64 + c1.toNat % 64) % 64 = c1.toNat := by omega
            rw [e1, e2, hc, byte_of]
            rfl
          · cases h
      · cases r with
        | nil => rw [chrAt_nil (by omega) (by omega)] at h; cases h
        | cons c1 r =>
          rw [chrAt_cons (by omega) (by omega)] at h
          split at h
          · rename_i q
            cases r with
            | nil => rw [chrAt_nil (by omega) (by omega)] at h; cases h
            | cons c2 r =>
              rw [chrAt_cons (by omega) (by omega)] at h
              split at h
              · rename_i q2
                rw [chrAt_done (by omega)] at h
                obtain ⟨rfl, rfl⟩ : (w * 64 + c1.toNat % 64) * 64 + c2.toNat % 64 = v ∧ 3 = n := by simpa using h
                have hl := mayBe_last q2.2
                simp [mostOf, leastOf] at hl
                have b1 := byte_lt c1
                have b2 := byte_lt c2
                have hs' : 224 + w = c.toNat := by simpa using hs
                refine ⟨?_, by omega, by simp, fun e => by omega⟩
                unfold utf8
                rw [if_neg (by omega), if_neg (by omega), if_pos (by omega)]
                have e1 : 224 + ((w * 64 + c1.toNat % 64) * 64 + c2.toNat % 64) / 4096 = c.toNat := by omega
                have e2 : 128 + ((w * 64 + c1.toNat % 64) * 64 + c2.toNat % 64) / 64 % 64 = c1.toNat := by omega
                have e3 : 128 + ((w * 64 + c1.toNat % 64) * 64 + c2.toNat % 64) % 64 = c2.toNat := by omega
                rw [e1, e2, e3, hc, byte_of, byte_of]
                rfl
              · cases h
          · cases h
      · cases r with
        | nil => rw [chrAt_nil (by omega) (by omega)] at h; cases h
        | cons c1 r =>
          rw [chrAt_cons (by omega) (by omega)] at h
          split at h
          · rename_i q
            cases r with
            | nil => rw [chrAt_nil (by omega) (by omega)] at h; cases h
            | cons c2 r =>
              rw [chrAt_cons (by omega) (by omega)] at h
              split at h
              · rename_i q2
                cases r with
                | nil => rw [chrAt_nil (by omega) (by omega)] at h; cases h
                | cons c3 r =>
                  rw [chrAt_cons (by omega) (by omega)] at h
                  split at h
                  · rename_i q3
                    rw [chrAt_done (by omega)] at h
                    obtain ⟨rfl, rfl⟩ : ((w * 64 + c1.toNat % 64) * 64 + c2.toNat % 64) * 64 + c3.toNat % 64 = v ∧ 4 = n := by simpa using h
                    have hl := mayBe_last q3.2
                    simp [mostOf, leastOf] at hl
                    have b1 := byte_lt c1
                    have b2 := byte_lt c2
                    have b3 := byte_lt c3
                    have hs' : 240 + w = c.toNat := by simpa using hs
                    refine ⟨?_, by omega, by simp, fun e => by omega⟩
                    unfold utf8
                    rw [if_neg (by omega), if_neg (by omega), if_neg (by omega)]
                    have e1 : 240 + (((w * 64 + c1.toNat % 64) * 64 + c2.toNat % 64) * 64 + c3.toNat % 64) / 262144 = c.toNat := by omega
                    have e2 : 128 + (((w * 64 + c1.toNat % 64) * 64 + c2.toNat % 64) * 64 + c3.toNat % 64) / 4096 % 64 = c1.toNat := by omega
                    have e3 : 128 + (((w * 64 + c1.toNat % 64) * 64 + c2.toNat % 64) * 64 + c3.toNat % 64) / 64 % 64 = c2.toNat := by omega
                    have e4 : 128 + (((w * 64 + c1.toNat % 64) * 64 + c2.toNat % 64) * 64 + c3.toNat % 64) % 64 = c3.toNat := by omega
                    rw [e1, e2, e3, e4, hc, byte_of, byte_of, byte_of]
                    rfl
                  · cases h
              · cases h
          · cases h
/-! ## Tags -/
/-- whether a tag's number goes on -/
def goes (v c : Nat) : Bool := decide (48 ≤ c ∧ c ≤ 57 ∧ 1 ≤ v * 10 + c - 48 ∧ v * 10 + c - 48 ≤ 999)
def DI (n v : Nat) : Prop := (n = 0 ∧ v = 0) ∨ (n = 1 ∧ 1 ≤ v ∧ v ≤ 9) ∨ (n = 2 ∧ 10 ≤ v ∧ v ≤ 99) ∨ (n = 3 ∧ 100 ≤ v ∧ v ≤ 999)
def shift (k : Nat) : Except Nat (Nat × Nat) → Except Nat (Nat × Nat)
  | .ok x => .ok x
  | .error e => .error (e + k)
theorem shift_zero (x : Except Nat (Nat × Nat)) : shift 0 x = x := by cases x <;> rfl
theorem shift_shift (k m : Nat) (x : Except Nat (Nat × Nat)) : shift k (shift m x) = shift (k + m) x := by
  cases x with
  | ok x => rfl
  | error e => show Except.error (e + m + k) = Except.error (e + (k + m)); congr 1; omega
theorem dig_nil (n v : Nat) : digitsHere n v [] = .error 0 := by unfold digitsHere; rfl
theorem isDigit_iff (c : UInt8) : isDigit c = true ↔ 48 ≤ c.toNat ∧ c.toNat ≤ 57 := by
  unfold isDigit
  simp [UInt8.le_iff_toNat_le]
theorem ne_brace {c : UInt8} (h : c.toNat ≤ 57) : ¬ c = 125 := fun e => by rw [e] at h; exact absurd h (by decide)
theorem match_shift (x : Except Nat (Nat × Nat)) : (match x with
    | .ok x => (.ok x : Except Nat (Nat × Nat))
    | .error k => .error (k + 1)) = shift 1 x := by cases x <;> rfl
theorem dig_go {n v : Nat} {c : UInt8} {r : Bytes} (h : DI n v) (g : goes v c.toNat = true) :
    digitsHere n v (c :: r) = shift 1 (digitsHere (n + 1) (v * 10 + c.toNat - 48) r) ∧ DI (n + 1) (v * 10 + c.toNat - 48) := by
  have g := of_decide_eq_true g
  have hd : isDigit c = true := (isDigit_iff c).mpr ⟨g.1, g.2.1⟩
  rcases h with ⟨rfl, rfl⟩ | ⟨rfl, h1, h2⟩ | ⟨rfl, h1, h2⟩ | ⟨rfl, h1, h2⟩
  · refine ⟨?_, .inr (.inl ⟨rfl, by omega, by omega⟩)⟩
    conv => lhs; unfold digitsHere
    rw [if_pos rfl, if_pos (by omega), show (0 * 10 + c.toNat - 48) = c.toNat - 48 by omega]
    show _ = shift 1 (digitsHere 1 (c.toNat - 48) r)
    cases digitsHere 1 (c.toNat - 48) r <;> rfl
  · refine ⟨?_, .inr (.inr (.inl ⟨rfl, by omega, by omega⟩))⟩
    conv => lhs; unfold digitsHere
    rw [if_neg (by omega), if_neg (ne_brace g.2.1), if_pos ⟨by omega, hd⟩, show 10 * v + (c.toNat - 48) = v * 10 + c.toNat - 48 by omega]
    cases digitsHere _ (v * 10 + c.toNat - 48) r <;> rfl
  · refine ⟨?_, .inr (.inr (.inr ⟨rfl, by omega, by omega⟩))⟩
    conv => lhs; unfold digitsHere
    rw [if_neg (by omega), if_neg (ne_brace g.2.1), if_pos ⟨by omega, hd⟩, show 10 * v + (c.toNat - 48) = v * 10 + c.toNat - 48 by omega]
    cases digitsHere _ (v * 10 + c.toNat - 48) r <;> rfl
  · omega
theorem dig_stop {n v : Nat} {c : UInt8} {r : Bytes} (h : DI n v) (g : goes v c.toNat = false) :
    digitsHere n v (c :: r) = if 0 < v ∧ c.toNat = 125 then .ok (v, n) else .error 0 := by
  have g := of_decide_eq_false g
  have hd : isDigit c = true ↔ 48 ≤ c.toNat ∧ c.toNat ≤ 57 := isDigit_iff c
  have hb : c = 125 ↔ c.toNat = 125 := ⟨fun e => by rw [e]; rfl, fun e => UInt8.toNat.inj (by rw [e]; rfl)⟩
  conv => lhs; unfold digitsHere
  rcases h with ⟨rfl, rfl⟩ | ⟨rfl, h1, h2⟩ | ⟨rfl, h1, h2⟩ | ⟨rfl, h1, h2⟩
  · rw [if_pos rfl, if_neg (by omega), if_neg (by omega)]
  all_goals
    rw [if_neg (by omega)]
    by_cases e : c.toNat = 125
    · rw [if_pos (hb.mpr e), if_pos ⟨by omega, e⟩]
    · rw [if_neg (fun z => e (hb.mp z)), if_neg (show ¬ (0 < v ∧ c.toNat = 125) from fun z => e z.2), if_neg]
      intro z
      have := hd.mp z.2
      have := z.1
      omega
/-- the bytes of a number's digits -/
theorem dec_is : ∀ v : Fin 1000, 1 ≤ v.val → decimal v.val = (if v.val < 10 then [UInt8.ofNat (48 + v.val)] else if v.val < 100 then [UInt8.ofNat (48 + v.val / 10), UInt8.ofNat (48 + v.val % 10)] else [UInt8.ofNat (48 + v.val / 100), UInt8.ofNat (48 + v.val / 10 % 10), UInt8.ofNat (48 + v.val % 10)]) := by
  decide +kernel
theorem dec_snoc {n v c : Nat} (h : DI n v) (g : goes v c = true) : decimal (v * 10 + c - 48) = (if n = 0 then [] else decimal v) ++ [UInt8.ofNat c] := by
  have g := of_decide_eq_true g
  have hw := dec_is ⟨v * 10 + c - 48, by omega⟩ (by show 1 ≤ v * 10 + c - 48; omega)
  simp only at hw
  rw [hw]
  clear hw
  rcases h with ⟨rfl, rfl⟩ | ⟨rfl, h1, h2⟩ | ⟨rfl, h1, h2⟩ | ⟨rfl, h1, h2⟩
  · rw [if_pos (show 0 * 10 + c - 48 < 10 by omega), if_pos rfl, show 48 + (0 * 10 + c - 48) = c by omega]
    rfl
  · have hv := dec_is ⟨v, by omega⟩ h1
    simp only at hv
    rw [if_neg (show ¬ v * 10 + c - 48 < 10 by omega), if_pos (show v * 10 + c - 48 < 100 by omega), if_neg (show ¬ 1 = 0 by omega), hv, if_pos (show v < 10 by omega), show 48 + (v * 10 + c - 48) / 10 = 48 + v by omega, show 48 + (v * 10 + c - 48) % 10 = c by omega]
    rfl
  · have hv := dec_is ⟨v, by omega⟩ (by show 1 ≤ v; omega)
    simp only at hv
    rw [if_neg (show ¬ v * 10 + c - 48 < 10 by omega), if_neg (show ¬ v * 10 + c - 48 < 100 by omega), if_neg (show ¬ 2 = 0 by omega), hv, if_neg (show ¬ v < 10 by omega), if_pos (show v < 100 by omega), show 48 + (v * 10 + c - 48) / 100 = 48 + v / 10 by omega, show 48 + (v * 10 + c - 48) / 10 % 10 = 48 + v % 10 by omega, show 48 + (v * 10 + c - 48) % 10 = c by omega]
    rfl
  · omega
theorem dig_text_aux : ∀ (b : Bytes) (n v w m : Nat), DI n v → digitsHere n v b = .ok (w, m) → n ≤ m ∧ (m - n) + 1 ≤ b.length ∧ 0 < w ∧ 0 < m ∧ w ≤ 999 ∧ decimal w ++ [125] = (if n = 0 then [] else decimal v) ++ b.take (m - n + 1)
  | [], n, v, w, m, hi, h => by rw [dig_nil] at h; cases h
  | c :: r, n, v, w, m, hi, h => by
    cases g : goes v c.toNat with
    | true =>
      obtain ⟨e, hi2⟩ := dig_go (r := r) hi g
      rw [e] at h
      have h2 : digitsHere (n + 1) (v * 10 + c.toNat - 48) r = .ok (w, m) := by
        cases q : digitsHere (n + 1) (v * 10 + c.toNat - 48) r with
        | ok x => rw [q] at h; exact h
        | error k => rw [q] at h; cases h
      obtain ⟨k1, k2, k3, k4, k6, k5⟩ := dig_text_aux r (n + 1) _ w m hi2 h2
      refine ⟨by omega, by simp; omega, k3, k4, k6, ?_⟩
      rw [k5, if_neg (by omega), dec_snoc hi g, byte_of]
      have : m - n + 1 = (m - (n + 1) + 1) + 1 := by omega
      rw [this, List.take_succ_cons]
      simp
    | false =>
      rw [dig_stop hi g] at h
      split at h
      · rename_i q
        obtain ⟨rfl, rfl⟩ : v = w ∧ n = m := by simpa using h
        have hn : n ≠ 0 ∧ v ≤ 999 := by rcases hi with ⟨rfl, rfl⟩ | ⟨rfl, _⟩ | ⟨rfl, _⟩ | ⟨rfl, _⟩ <;> omega
        refine ⟨by omega, by simp, q.1, by omega, hn.2, ?_⟩
        rw [if_neg hn.1]
        have : c = 125 := UInt8.toNat.inj (by rw [q.2]; rfl)
        simp [this]
      · cases h
theorem dig_text {b : Bytes} {w m : Nat} (h : digitsHere 0 0 b = .ok (w, m)) : m + 1 ≤ b.length ∧ 0 < w ∧ w ≤ 999 ∧ decimal w ++ [125] = b.take (m + 1) := by
  obtain ⟨_, h2, h3, _, h6, h5⟩ := dig_text_aux b 0 0 w m (.inl ⟨rfl, rfl⟩) h
  exact ⟨by omega, h3, h6, by simpa using h5⟩
/-! ## Pieces -/
theorem piece_nil : pieceHere [] = .error 0 := rfl
theorem piece_end : pieceHere [123] = .error 1 := rfl
theorem piece_brace (d : Bytes) : pieceHere (123 :: 123 :: d) = .ok (.char 123, 2) := rfl
def tagRes (s : UInt8) : Except Nat (Nat × Nat) → Except Nat (Piece × Nat)
  | .ok x => .ok (tagOf s x.1, x.2 + 3)
  | .error k => .error (k + 2)
def chrRes : Except Nat (Nat × Nat) → Except Nat (Piece × Nat)
  | .ok x => .ok (.char x.1, x.2)
  | .error k => .error k
theorem piece_tag {s : UInt8} (d : Bytes) (h : s = 43 ∨ s = 45 ∨ s = 46) : pieceHere (123 :: s :: d) = tagRes s (digitsHere 0 0 d) := by
  have h1 : ¬ s = 123 := by rcases h with rfl | rfl | rfl <;> decide
  simp only [pieceHere, if_pos, if_neg h1, if_pos h]
  cases digitsHere 0 0 d <;> rfl
theorem piece_nosign {s : UInt8} (d : Bytes) (h1 : ¬ s = 123) (h : ¬ (s = 43 ∨ s = 45 ∨ s = 46)) : pieceHere (123 :: s :: d) = .error 1 := by
  simp only [pieceHere, if_pos, if_neg h1, if_neg h]
theorem piece_char {c : UInt8} (r : Bytes) (h : ¬ c = 123) : pieceHere (c :: r) = chrRes (charHere (c :: r)) := by
  simp only [pieceHere, if_neg h]
  cases charHere (c :: r) <;> rfl
/-- a piece read: its text is what it was read from -/
theorem piece_text {b : Bytes} {x : Piece} {n : Nat} (h : pieceHere b = .ok (x, n)) : x.text = b.take n ∧ 1 ≤ n ∧ n ≤ b.length := by
  cases b with
  | nil => cases h
  | cons c r =>
    by_cases hc : c = 123
    · subst hc
      cases r with
      | nil => cases h
      | cons s d =>
        by_cases hs : s = 123
        · subst hs
          rw [piece_brace] at h
          obtain ⟨rfl, rfl⟩ : Piece.char 123 = x ∧ 2 = n := by simpa using h
          exact ⟨rfl, by omega, by simp⟩
        by_cases ht : s = 43 ∨ s = 45 ∨ s = 46
        · rw [piece_tag d ht] at h
          cases q : digitsHere 0 0 d with
          | error k => rw [q] at h; cases h
          | ok y =>
            rw [q] at h
            obtain ⟨w, m⟩ := y
            obtain ⟨rfl, rfl⟩ : tagOf s w = x ∧ m + 3 = n := by simpa [tagRes] using h
            obtain ⟨h1, h2, h3, h4⟩ := dig_text q
            refine ⟨?_, by omega, by simp; omega⟩
            have e : (123 :: s :: d).take (m + 3) = [123, s] ++ (decimal w ++ [125]) := by
              rw [h4]
              rfl
            rw [e]
            unfold tagOf
            rcases ht with rfl | rfl | rfl <;> rfl
        · rw [piece_nosign d hs ht] at h
          cases h
    · rw [piece_char r hc] at h
      cases q : charHere (c :: r) with
      | error k => rw [q] at h; cases h
      | ok y =>
        rw [q] at h
        obtain ⟨w, m⟩ := y
        obtain ⟨rfl, rfl⟩ : Piece.char w = x ∧ m = n := by simpa [chrRes] using h
        obtain ⟨h1, h2, h3, h4⟩ := chr_text q
        refine ⟨?_, h2, h3⟩
        show (if w = 123 then _ else _) = _
        rw [if_neg]
        · exact h1
        · intro e
          have z := h4 e
          exact hc (Option.some.inj z)
/-! ## Rows -/
/-- a text read from a place on -/
theorem row_go {f p : Nat} {l : Row} {b : Bytes} {x : Piece} {n : Nat} (hb : b ≠ []) (h : pieceHere b = .ok (x, n)) (hf : b.length ≤ f + 1) :
    rowFrom (f + 1) p l b = rowFrom f (p + n) (x :: l) (b.drop n) ∧ (b.drop n).length ≤ f := by
  cases b with
  | nil => exact absurd rfl hb
  | cons c r =>
    obtain ⟨_, h2, h3⟩ := piece_text h
    refine ⟨?_, by rw [List.length_drop]; omega⟩
    conv => lhs; unfold rowFrom
    rw [h]
theorem row_bad {f p : Nat} {l : Row} {b : Bytes} {k : Nat} (hb : b ≠ []) (h : pieceHere b = .error k) (hf : b.length ≤ f) : rowFrom f p l b = .error (p + k) := by
  cases b with
  | nil => exact absurd rfl hb
  | cons c r =>
    cases f with
    | zero => simp at hf
    | succ f =>
      conv => lhs; unfold rowFrom
      rw [h]
theorem row_end {f p : Nat} {l : Row} : rowFrom f p l [] = .ok l.reverse := by
  cases f <;> (unfold rowFrom; rfl)
theorem rowText_nil : rowText [] = [] := rfl
theorem rowText_app (a b : Row) : rowText (a ++ b) = rowText a ++ rowText b := by unfold rowText; rw [List.flatMap_append]
theorem rowText_one (x : Piece) : rowText [x] = x.text := by unfold rowText; simp
/-- what holds of the text read so far: up to place p the pieces l (the last first) -/
structure ReadSo (b : Bytes) (p : Nat) (l : Row) : Prop where
  le : p ≤ b.length
  txt : rowText l.reverse = b.take p
  on : ∃ f, (b.drop p).length ≤ f ∧ rowRead b = rowFrom f p l (b.drop p)
theorem read_start (b : Bytes) : ReadSo b 0 [] := ⟨Nat.zero_le _, rfl, b.length, by simp, rfl⟩
theorem read_more {b : Bytes} {p : Nat} {l : Row} {x : Piece} {n : Nat} (h : ReadSo b p l) (hp : p < b.length) (e : pieceHere (b.drop p) = .ok (x, n)) : ReadSo b (p + n) (x :: l) ∧ p + n ≤ b.length ∧ 1 ≤ n := by
  obtain ⟨f, hf, hr⟩ := h.on
  have hne : b.drop p ≠ [] := by
    intro z
    have := congrArg List.length z
    rw [List.length_drop] at this
    simp at this
    omega
  obtain ⟨t1, t2, t3⟩ := piece_text e
  rw [List.length_drop] at t3
  cases f with
  | zero => rw [List.length_drop] at hf; omega
  | succ f =>
    obtain ⟨g1, g2⟩ := row_go (p := p) (l := l) hne e hf
    refine ⟨⟨by omega, ?_, f, ?_, ?_⟩, by omega, t2⟩
    · rw [List.reverse_cons, rowText_app, rowText_one, h.txt, t1, ← List.take_add]
    · rw [List.drop_drop] at g2; exact g2
    · rw [hr, g1, List.drop_drop]
theorem read_bad {b : Bytes} {p : Nat} {l : Row} {k : Nat} (h : ReadSo b p l) (hp : p < b.length) (e : pieceHere (b.drop p) = .error k) : rowRead b = .error (p + k) := by
  obtain ⟨f, hf, hr⟩ := h.on
  have hne : b.drop p ≠ [] := by
    intro z
    have := congrArg List.length z
    rw [List.length_drop] at this
    simp at this
    omega
  rw [hr, row_bad hne e hf]
theorem read_all {b : Bytes} {p : Nat} {l : Row} (h : ReadSo b p l) (hp : ¬ p < b.length) : rowRead b = .ok l.reverse ∧ rowText l.reverse = b := by
  obtain ⟨f, hf, hr⟩ := h.on
  have hpe : p = b.length := by have := h.le; omega
  refine ⟨?_, ?_⟩
  · rw [hr, hpe, List.drop_length, row_end]
  · rw [h.txt, hpe, List.take_length]
theorem read_text_aux : ∀ (f : Nat) (b : Bytes) (p : Nat) (l : Row), b.length - p ≤ f → ReadSo b p l → ∀ r, rowRead b = .ok r → rowText r = b
  | 0, b, p, l, hf, h, r, e => by
    obtain ⟨h1, h2⟩ := read_all h (by omega)
    rw [h1] at e
    cases e
    exact h2
  | f + 1, b, p, l, hf, h, r, e => by
    by_cases hp : p < b.length
    · cases q : pieceHere (b.drop p) with
      | ok y =>
        obtain ⟨x, n⟩ := y
        obtain ⟨h2, h3, h4⟩ := read_more h hp q
        exact read_text_aux f b (p + n) (x :: l) (by omega) h2 r e
      | error k =>
        rw [read_bad h hp q] at e
        cases e
    · obtain ⟨h1, h2⟩ := read_all h hp
      rw [h1] at e
      cases e
      exact h2
/-- a row read is the text's own -/
theorem text_of_read {b : Bytes} {r : Row} (h : rowRead b = .ok r) : rowText r = b := read_text_aux b.length b 0 [] (by omega) (read_start b) r h
end Fj
set_option Elab.async false
set_option linter.all false
set_option maxRecDepth 100000
set_option maxHeartbeats 4000000
namespace Fj
open PySem PySem.Spec PyProof.Rows L2
/-- what the top has left: the facts, and what the module's names hold -/
structure Tx (K : PySem.W.Frag) (mg : Str → Option Value) : Prop where
  says : He.SaysD fas fns K
  ex : exB K = true
  glo : ∀ x : Str, (He.Fa.glo x).ok K = true → mg x = some (.ref (He.ga K x))
  free : ∀ x : Str, (He.Fa.free x).ok K = true → mg x = none
  int : ∀ (x : Str) (i : Int), (He.Fa.int x i).ok K = true → ∃ t, mg x = some (.int i t)
/-- a def of the top keeps its promise, and stands at its name -/
structure OkF (P : Program) (w : World) (K : PySem.W.Frag) (mg : Str → Option Value) (base : Heap) (k : Nat) (x : Str) (ps : List Str) (sp : Sp) : Prop where
  ex : ∃ (f : Addr) (fd : FuncData), FnOk P w K mg base CX0 k f fd ps sp ∧ mg x = some (.ref f) ∧ PySem.W.keepIn K (.ref f) = true ∧ Binds K fd ps []
section
variable {P : Program} {w : World} {K : PySem.W.Frag} {mg : Str → Option Value} {base : Heap}
theorem Tx.fa (T : Tx K mg) (i : Nat) {f : He.Fa} (h : fas[i]? = some f) : f.ok K = true := T.says.fact i h
/-- a promise kept, from the body's derivation and its reading -/
theorem okf {d : He.DefD} (i j : Nat) {N ps : List Str} {k : Nat} {sp : Sp} (T : Tx K mg) (hd : fns[i]? = some d) (hat : d.at_ = (d.name, none)) (hdf : d.dfl = []) (hkw : d.kwd = []) (hg : fas[j]? = some (.glo d.name))
    (S : FnScope N ps d.scope) (hb : ∀ (kV doc pm : Value) (an : Option Addr) (cdv ct : Value) (us : List Value), us.length = ps.length → bindArgs (PySem.W.fnOf d.name d.qual d.params d.body d.scope .none kV doc pm an cdv ct) ⟨us, []⟩ = pure (ps.zip us))
    (len : ∀ vs H Q E, sp vs H Q E → vs.length = ps.length)
    (hbody : ∀ (f : Addr) (cdv : Value) (A : Around) (outer : List Env) (s : Shared) (H : Hp) (vs : List V) (Q : VK) (E : XK), Room k (A.deeper (envOfC d.qual d.scope s.heap.objs.size f cdv)) → sp vs H Q E →
      ∃ t, PSs (cxOf CX0 P w K mg base N d.qual d.scope f cdv A outer s H E).nox d.body t ∧ t { nx := fun _ H' => Q .non H', rt := Q } (start N vs) H) : OkF P w K mg base (k + 1) d.name ps sp := by
  obtain ⟨fd, F⟩ := T.says.def_ i hd
  obtain ⟨at_, nm, ql, pr, bd, sc, df, kw⟩ := d
  simp only at hat hdf hkw
  subst hat hdf hkw
  refine ⟨_, fd, FunD.ok F S len fun cdv A outer s H vs Q E hr h => ?_, T.glo _ (T.fa j hg), F.kp, ?_⟩
  · obtain ⟨t, q1, q2⟩ := hbody _ cdv A outer s H vs Q E hr h
    exact ⟨t, q1.nox, q2⟩
  · exact FunD.bindsN F hb
/-- a call of such a def -/
theorem pe_callF {X : Cx} {k : Nat} {x : Str} {ps : List Str} {sp : Sp} {e : Expr} {es : List Expr} {t : TA} {p pos : Pos} (O : OkF X.prog X.w X.K X.mg X.base k x ps sp) (hr : Room k X.A) (ha : PA X (e :: es) t) (hg : Gl X x := by rfl)
    (hdb : (x == ("__debug__" : Str)) = false := by decide) (he : starEach (e :: es) X.env = (false, eval e X.env) :: starEach es X.env := by rfl) (hpl : (backTo pos (starEach es X.env)).any (·.1) = false := by rfl) :
    PE X (.Call (.Name x p) (e :: es) [] pos) (tCall sp [] E0 t) := by
  obtain ⟨f, fd, G, g, kp, b⟩ := O.ex
  exact pe_call G hr hg g kp b .nil pass0 ha hdb he hpl
/-- a module's int -/
theorem pe_gi {X : Cx} {x : Str} {i : Int} {pos : Pos} (h : ∃ t, X.mg x = some (.int i t)) (hg : Gl X x := by rfl) (hdb : (x == ("__debug__" : Str)) = false := by decide) : PE X (.Name x pos) (tC (.int i)) := by
  obtain ⟨t, h⟩ := h
  exact pe_glob hg h ⟨t, rfl⟩ (hd := hdb)
theorem cx_K {CX : CXT} {N : List Str} {qual : Str} {scope : Scope} {f : Addr} {cdv : Value} {A : Around} {outer : List Env} {s : Shared} {H : Hp} {E : XK} : (cxOf CX P w K mg base N qual scope f cdv A outer s H E).K = K := rfl
theorem cx_noxK {X : Cx} : X.nox.K = X.K := rfl
theorem scal_ii {i j : Int} : scal (.int i) (.int j) = true := rfl
theorem scal_nn : scal .non .non = true := rfl
theorem scal_in {i : Int} : scal (.int i) .non = true := rfl
theorem scal_ni {i : Int} : scal .non (.int i) = true := rfl
theorem scal_bb {i j : Bool} : scal (.bl i) (.bl j) = true := rfl
theorem line1 : 1 ≤ sizeLine := by decide
theorem line2 : 2 ≤ sizeLine := by decide
theorem line3 : 3 ≤ sizeLine := by decide
theorem line7 : 7 ≤ sizeLine := by decide
/-- a statement, a word that holds behind it, and what follows from the word -/
def tMid (t u : TS) : TS := fun D σ H => ∃ M : L2.St → Hp → Prop, t { D with nx := M } σ H ∧ ∀ σ2 H2, M σ2 H2 → u D σ2 H2
theorem pss_mid {X : Cx} {st : Stmt} {rest : List Stmt} {t u : TS} (a : PS X st t) (b : PSs X rest u) : PSs X (st :: rest) (tMid t u) := ⟨fun pins s σ H D I h => by
  obtain ⟨M, m1, m2⟩ := h
  refine wpAny_execs_cons (thn (a.run pins s σ H { D with nx := M } I m1) fun fl s2 q => ?_)
  cases fl with
  | next =>
    obtain ⟨σ2, H2, I2, q⟩ := q
    exact b.run pins s2 σ2 H2 D I2 (m2 σ2 H2 q)
  | _ => exact q⟩
/-- a module's object -/
theorem pe_gr {X : Cx} {x : Str} {a : Addr} {pos : Pos} (h : X.mg x = some (.ref a)) (hg : Gl X x := by rfl) (hdb : (x == ("__debug__" : Str)) = false := by decide) : PE X (.Name x pos) (tC (.ref a)) :=
  pe_glob (v := .ref a) hg h rfl (hd := hdb)
end
end Fj
set_option Elab.async false
set_option linter.all false
set_option maxRecDepth 100000
set_option maxHeartbeats 4000000
namespace Fj
open PySem PySem.Spec PyProof.Rows L2
section
variable {K : PySem.W.Frag} {mg : Str → Option Value}
theorem Tx.g_stamp_number (T : Tx K mg) : mg "stamp_number" = some (.ref (He.ga K "stamp_number")) := T.glo _ (T.fa 0 rfl)
theorem Tx.g_tick_of (T : Tx K mg) : mg "tick_of" = some (.ref (He.ga K "tick_of")) := T.glo _ (T.fa 1 rfl)
theorem Tx.g_person_of (T : Tx K mg) : mg "person_of" = some (.ref (He.ga K "person_of")) := T.glo _ (T.fa 2 rfl)
theorem Tx.g_is_same (T : Tx K mg) : mg "is_same" = some (.ref (He.ga K "is_same")) := T.glo _ (T.fa 3 rfl)
theorem Tx.g_is_kind (T : Tx K mg) : mg "is_kind" = some (.ref (He.ga K "is_kind")) := T.glo _ (T.fa 4 rfl)
theorem Tx.g_state_may_be (T : Tx K mg) : mg "state_may_be" = some (.ref (He.ga K "state_may_be")) := T.glo _ (T.fa 5 rfl)
theorem Tx.g_over_may_be (T : Tx K mg) : mg "over_may_be" = some (.ref (He.ga K "over_may_be")) := T.glo _ (T.fa 6 rfl)
theorem Tx.g_is_rising (T : Tx K mg) : mg "is_rising" = some (.ref (He.ga K "is_rising")) := T.glo _ (T.fa 7 rfl)
theorem Tx.g_read_text (T : Tx K mg) : mg "read_text" = some (.ref (He.ga K "read_text")) := T.glo _ (T.fa 8 rfl)
theorem Tx.g_read_piece (T : Tx K mg) : mg "read_piece" = some (.ref (He.ga K "read_piece")) := T.glo _ (T.fa 9 rfl)
theorem Tx.g_read_braced (T : Tx K mg) : mg "read_braced" = some (.ref (He.ga K "read_braced")) := T.glo _ (T.fa 10 rfl)
theorem Tx.g_tag_kind (T : Tx K mg) : mg "tag_kind" = some (.ref (He.ga K "tag_kind")) := T.glo _ (T.fa 11 rfl)
theorem Tx.g_read_tag_number (T : Tx K mg) : mg "read_tag_number" = some (.ref (He.ga K "read_tag_number")) := T.glo _ (T.fa 12 rfl)
theorem Tx.g_tag_number_goes_on (T : Tx K mg) : mg "tag_number_goes_on" = some (.ref (He.ga K "tag_number_goes_on")) := T.glo _ (T.fa 13 rfl)
theorem Tx.g_read_character (T : Tx K mg) : mg "read_character" = some (.ref (He.ga K "read_character")) := T.glo _ (T.fa 14 rfl)
theorem Tx.g_length_by_lead (T : Tx K mg) : mg "length_by_lead" = some (.ref (He.ga K "length_by_lead")) := T.glo _ (T.fa 15 rfl)
theorem Tx.g_leads_to_character (T : Tx K mg) : mg "leads_to_character" = some (.ref (He.ga K "leads_to_character")) := T.glo _ (T.fa 16 rfl)
theorem Tx.g_first_character_from (T : Tx K mg) : mg "first_character_from" = some (.ref (He.ga K "first_character_from")) := T.glo _ (T.fa 17 rfl)
theorem Tx.g_shape_of (T : Tx K mg) : mg "shape_of" = some (.ref (He.ga K "shape_of")) := T.glo _ (T.fa 18 rfl)
theorem Tx.g_take_tag (T : Tx K mg) : mg "take_tag" = some (.ref (He.ga K "take_tag")) := T.glo _ (T.fa 19 rfl)
theorem Tx.g_take_close (T : Tx K mg) : mg "take_close" = some (.ref (He.ga K "take_close")) := T.glo _ (T.fa 20 rfl)
theorem Tx.g_stands_wrong (T : Tx K mg) : mg "stands_wrong" = some (.ref (He.ga K "stands_wrong")) := T.glo _ (T.fa 21 rfl)
theorem Tx.g_is_straight (T : Tx K mg) : mg "is_straight" = some (.ref (He.ga K "is_straight")) := T.glo _ (T.fa 22 rfl)
theorem Tx.g_fits (T : Tx K mg) : mg "fits" = some (.ref (He.ga K "fits")) := T.glo _ (T.fa 23 rfl)
theorem Tx.g_stamp_is_beyond (T : Tx K mg) : mg "stamp_is_beyond" = some (.ref (He.ga K "stamp_is_beyond")) := T.glo _ (T.fa 24 rfl)
theorem Tx.g_stamp_number_is_beyond (T : Tx K mg) : mg "stamp_number_is_beyond" = some (.ref (He.ga K "stamp_number_is_beyond")) := T.glo _ (T.fa 25 rfl)
theorem Tx.g_document_is_beyond (T : Tx K mg) : mg "document_is_beyond" = some (.ref (He.ga K "document_is_beyond")) := T.glo _ (T.fa 26 rfl)
theorem Tx.g_name_is_beyond (T : Tx K mg) : mg "name_is_beyond" = some (.ref (He.ga K "name_is_beyond")) := T.glo _ (T.fa 27 rfl)
theorem Tx.g_text_is_beyond (T : Tx K mg) : mg "text_is_beyond" = some (.ref (He.ga K "text_is_beyond")) := T.glo _ (T.fa 28 rfl)
theorem Tx.g_is_no_journal (T : Tx K mg) : mg "is_no_journal" = some (.ref (He.ga K "is_no_journal")) := T.glo _ (T.fa 29 rfl)
theorem Tx.g_are_no_two_journals (T : Tx K mg) : mg "are_no_two_journals" = some (.ref (He.ga K "are_no_two_journals")) := T.glo _ (T.fa 30 rfl)
theorem Tx.g_row_refusal (T : Tx K mg) : mg "row_refusal" = some (.ref (He.ga K "row_refusal")) := T.glo _ (T.fa 31 rfl)
theorem Tx.g_source_refusal (T : Tx K mg) : mg "source_refusal" = some (.ref (He.ga K "source_refusal")) := T.glo _ (T.fa 32 rfl)
theorem Tx.g_target_refusal (T : Tx K mg) : mg "target_refusal" = some (.ref (He.ga K "target_refusal")) := T.glo _ (T.fa 33 rfl)
theorem Tx.g_remark_refusal (T : Tx K mg) : mg "remark_refusal" = some (.ref (He.ga K "remark_refusal")) := T.glo _ (T.fa 34 rfl)
theorem Tx.g_put_refusal (T : Tx K mg) : mg "put_refusal" = some (.ref (He.ga K "put_refusal")) := T.glo _ (T.fa 35 rfl)
theorem Tx.g_records_by_segment (T : Tx K mg) : mg "records_by_segment" = some (.ref (He.ga K "records_by_segment")) := T.glo _ (T.fa 36 rfl)
theorem Tx.g_records_of (T : Tx K mg) : mg "records_of" = some (.ref (He.ga K "records_of")) := T.glo _ (T.fa 37 rfl)
theorem Tx.g_heads_of (T : Tx K mg) : mg "heads_of" = some (.ref (He.ga K "heads_of")) := T.glo _ (T.fa 38 rfl)
theorem Tx.g_remarks_of (T : Tx K mg) : mg "remarks_of" = some (.ref (He.ga K "remarks_of")) := T.glo _ (T.fa 39 rfl)
theorem Tx.g_in_conflict (T : Tx K mg) : mg "in_conflict" = some (.ref (He.ga K "in_conflict")) := T.glo _ (T.fa 40 rfl)
theorem Tx.g_standing (T : Tx K mg) : mg "standing" = some (.ref (He.ga K "standing")) := T.glo _ (T.fa 41 rfl)
theorem Tx.g_origin_of (T : Tx K mg) : mg "origin_of" = some (.ref (He.ga K "origin_of")) := T.glo _ (T.fa 42 rfl)
theorem Tx.g_approves_own (T : Tx K mg) : mg "approves_own" = some (.ref (He.ga K "approves_own")) := T.glo _ (T.fa 43 rfl)
theorem Tx.g_has_seen (T : Tx K mg) : mg "has_seen" = some (.ref (He.ga K "has_seen")) := T.glo _ (T.fa 44 rfl)
theorem Tx.g_write (T : Tx K mg) : mg "write" = some (.ref (He.ga K "write")) := T.glo _ (T.fa 45 rfl)
theorem Tx.g_rule (T : Tx K mg) : mg "rule" = some (.ref (He.ga K "rule")) := T.glo _ (T.fa 46 rfl)
theorem Tx.g_back (T : Tx K mg) : mg "back" = some (.ref (He.ga K "back")) := T.glo _ (T.fa 47 rfl)
theorem Tx.g_remark (T : Tx K mg) : mg "remark" = some (.ref (He.ga K "remark")) := T.glo _ (T.fa 48 rfl)
theorem Tx.g_some_head_is_late (T : Tx K mg) : mg "some_head_is_late" = some (.ref (He.ga K "some_head_is_late")) := T.glo _ (T.fa 49 rfl)
theorem Tx.g_stamps_over (T : Tx K mg) : mg "stamps_over" = some (.ref (He.ga K "stamps_over")) := T.glo _ (T.fa 50 rfl)
theorem Tx.g_enter (T : Tx K mg) : mg "enter" = some (.ref (He.ga K "enter")) := T.glo _ (T.fa 51 rfl)
theorem Tx.g_put (T : Tx K mg) : mg "put" = some (.ref (He.ga K "put")) := T.glo _ (T.fa 52 rfl)
theorem Tx.g_take_in (T : Tx K mg) : mg "take_in" = some (.ref (He.ga K "take_in")) := T.glo _ (T.fa 53 rfl)
theorem Tx.g_has_just (T : Tx K mg) : mg "has_just" = some (.ref (He.ga K "has_just")) := T.glo _ (T.fa 54 rfl)
theorem Tx.g_may_be_over (T : Tx K mg) : mg "may_be_over" = some (.ref (He.ga K "may_be_over")) := T.glo _ (T.fa 55 rfl)
theorem Tx.g_merge (T : Tx K mg) : mg "merge" = some (.ref (He.ga K "merge")) := T.glo _ (T.fa 56 rfl)
theorem Tx.g_lacks (T : Tx K mg) : mg "lacks" = some (.ref (He.ga K "lacks")) := T.glo _ (T.fa 57 rfl)
theorem Tx.g_tally (T : Tx K mg) : mg "tally" = some (.ref (He.ga K "tally")) := T.glo _ (T.fa 58 rfl)
theorem Tx.g_heads_in_document (T : Tx K mg) : mg "heads_in_document" = some (.ref (He.ga K "heads_in_document")) := T.glo _ (T.fa 59 rfl)
theorem Tx.g_standing_state (T : Tx K mg) : mg "standing_state" = some (.ref (He.ga K "standing_state")) := T.glo _ (T.fa 60 rfl)
theorem Tx.g_count_records (T : Tx K mg) : mg "count_records" = some (.ref (He.ga K "count_records")) := T.glo _ (T.fa 61 rfl)
theorem Tx.g_record_at (T : Tx K mg) : mg "record_at" = some (.ref (He.ga K "record_at")) := T.glo _ (T.fa 62 rfl)
theorem Tx.g_seen (T : Tx K mg) : mg "seen" = some (.ref (He.ga K "seen")) := T.glo _ (T.fa 63 rfl)
theorem Tx.g_stands (T : Tx K mg) : mg "stands" = some (.ref (He.ga K "stands")) := T.glo _ (T.fa 64 rfl)
theorem Tx.g_head (T : Tx K mg) : mg "head" = some (.ref (He.ga K "head")) := T.glo _ (T.fa 65 rfl)
theorem Tx.g_tell_head (T : Tx K mg) : mg "tell_head" = some (.ref (He.ga K "tell_head")) := T.glo _ (T.fa 66 rfl)
theorem Tx.g_said (T : Tx K mg) : mg "said" = some (.ref (He.ga K "said")) := T.glo _ (T.fa 67 rfl)
theorem Tx.g_next_segment (T : Tx K mg) : mg "next_segment" = some (.ref (He.ga K "next_segment")) := T.glo _ (T.fa 68 rfl)
theorem Tx.g_is_so (T : Tx K mg) : mg "is_so" = some (.ref (He.ga K "is_so")) := T.glo _ (T.fa 69 rfl)
theorem Tx.g_answers (T : Tx K mg) : mg "answers" = some (.ref (He.ga K "answers")) := T.glo _ (T.fa 70 rfl)
theorem Tx.g_answer_call (T : Tx K mg) : mg "answer_call" = some (.ref (He.ga K "answer_call")) := T.glo _ (T.fa 71 rfl)
theorem Tx.g_answer_entry (T : Tx K mg) : mg "answer_entry" = some (.ref (He.ga K "answer_entry")) := T.glo _ (T.fa 72 rfl)
theorem Tx.g_answer_question (T : Tx K mg) : mg "answer_question" = some (.ref (He.ga K "answer_question")) := T.glo _ (T.fa 73 rfl)
theorem Tx.g_answer_exchange (T : Tx K mg) : mg "answer_exchange" = some (.ref (He.ga K "answer_exchange")) := T.glo _ (T.fa 74 rfl)
theorem Tx.g_answer_overview (T : Tx K mg) : mg "answer_overview" = some (.ref (He.ga K "answer_overview")) := T.glo _ (T.fa 75 rfl)
theorem Tx.g_Record (T : Tx K mg) : mg "Record" = some (.ref (He.ga K "Record")) := T.glo _ (T.fa 76 rfl)
theorem Tx.c_Record (T : Tx K mg) : Cls K (He.ga K "Record") := He.cls_ok (T.fa 77 rfl)
theorem Tx.k_Record (T : Tx K mg) : Mk K (He.ga K "Record") (He.ma K (He.ga K "Record") "__init__") := He.mkr_ok (T.fa 78 rfl)
theorem Tx.n_Record_stamp (T : Tx K mg) : NoAttr K (He.ga K "Record") "stamp" := He.noat_ok (T.fa 79 rfl)
theorem Tx.n_Record_kind (T : Tx K mg) : NoAttr K (He.ga K "Record") "kind" := He.noat_ok (T.fa 80 rfl)
theorem Tx.n_Record_name (T : Tx K mg) : NoAttr K (He.ga K "Record") "name" := He.noat_ok (T.fa 81 rfl)
theorem Tx.n_Record_state (T : Tx K mg) : NoAttr K (He.ga K "Record") "state" := He.noat_ok (T.fa 82 rfl)
theorem Tx.n_Record_over (T : Tx K mg) : NoAttr K (He.ga K "Record") "over" := He.noat_ok (T.fa 83 rfl)
theorem Tx.n_Record_source (T : Tx K mg) : NoAttr K (He.ga K "Record") "source" := He.noat_ok (T.fa 84 rfl)
theorem Tx.n_Record_row (T : Tx K mg) : NoAttr K (He.ga K "Record") "row" := He.noat_ok (T.fa 85 rfl)
theorem Tx.n_Record_size (T : Tx K mg) : NoAttr K (He.ga K "Record") "size" := He.noat_ok (T.fa 86 rfl)
theorem Tx.g_Journal (T : Tx K mg) : mg "Journal" = some (.ref (He.ga K "Journal")) := T.glo _ (T.fa 87 rfl)
theorem Tx.c_Journal (T : Tx K mg) : Cls K (He.ga K "Journal") := He.cls_ok (T.fa 88 rfl)
theorem Tx.k_Journal (T : Tx K mg) : Mk K (He.ga K "Journal") (He.ma K (He.ga K "Journal") "__init__") := He.mkr_ok (T.fa 89 rfl)
theorem Tx.m_Journal_has_stamp (T : Tx K mg) : Meth K (He.ga K "Journal") "has_stamp" (He.ma K (He.ga K "Journal") "has_stamp") := He.meth_ok (T.fa 90 rfl)
theorem Tx.m_Journal_ordered (T : Tx K mg) : Meth K (He.ga K "Journal") "ordered" (He.ma K (He.ga K "Journal") "ordered") := He.meth_ok (T.fa 91 rfl)
theorem Tx.m_Journal_has_room (T : Tx K mg) : Meth K (He.ga K "Journal") "has_room" (He.ma K (He.ga K "Journal") "has_room") := He.meth_ok (T.fa 92 rfl)
theorem Tx.m_Journal_put_in (T : Tx K mg) : Meth K (He.ga K "Journal") "put_in" (He.ma K (He.ga K "Journal") "put_in") := He.meth_ok (T.fa 93 rfl)
theorem Tx.n_Journal_records (T : Tx K mg) : NoAttr K (He.ga K "Journal") "records" := He.noat_ok (T.fa 94 rfl)
theorem Tx.g_Reading (T : Tx K mg) : mg "Reading" = some (.ref (He.ga K "Reading")) := T.glo _ (T.fa 95 rfl)
theorem Tx.c_Reading (T : Tx K mg) : Cls K (He.ga K "Reading") := He.cls_ok (T.fa 96 rfl)
theorem Tx.k_Reading (T : Tx K mg) : Mk K (He.ga K "Reading") (He.ma K (He.ga K "Reading") "__init__") := He.mkr_ok (T.fa 97 rfl)
theorem Tx.n_Reading_text (T : Tx K mg) : NoAttr K (He.ga K "Reading") "text" := He.noat_ok (T.fa 98 rfl)
theorem Tx.n_Reading_pieces (T : Tx K mg) : NoAttr K (He.ga K "Reading") "pieces" := He.noat_ok (T.fa 99 rfl)
theorem Tx.n_Reading_starts (T : Tx K mg) : NoAttr K (He.ga K "Reading") "starts" := He.noat_ok (T.fa 100 rfl)
theorem Tx.n_Reading_fault (T : Tx K mg) : NoAttr K (He.ga K "Reading") "fault" := He.noat_ok (T.fa 101 rfl)
theorem Tx.g_Shape (T : Tx K mg) : mg "Shape" = some (.ref (He.ga K "Shape")) := T.glo _ (T.fa 102 rfl)
theorem Tx.c_Shape (T : Tx K mg) : Cls K (He.ga K "Shape") := He.cls_ok (T.fa 103 rfl)
theorem Tx.k_Shape (T : Tx K mg) : Mk K (He.ga K "Shape") (He.ma K (He.ga K "Shape") "__init__") := He.mkr_ok (T.fa 104 rfl)
theorem Tx.n_Shape_straight (T : Tx K mg) : NoAttr K (He.ga K "Shape") "straight" := He.noat_ok (T.fa 105 rfl)
theorem Tx.n_Shape_tags (T : Tx K mg) : NoAttr K (He.ga K "Shape") "tags" := He.noat_ok (T.fa 106 rfl)
theorem Tx.n_Shape_lefts (T : Tx K mg) : NoAttr K (He.ga K "Shape") "lefts" := He.noat_ok (T.fa 107 rfl)
theorem Tx.n_Shape_pile (T : Tx K mg) : NoAttr K (He.ga K "Shape") "pile" := He.noat_ok (T.fa 108 rfl)
theorem Tx.i_TARGET (T : Tx K mg) : ∃ t, mg "TARGET" = some (.int 1 t) := T.int _ _ (T.fa 109 rfl)
theorem Tx.i_VERDICT (T : Tx K mg) : ∃ t, mg "VERDICT" = some (.int 2 t) := T.int _ _ (T.fa 110 rfl)
theorem Tx.i_TAKING_BACK (T : Tx K mg) : ∃ t, mg "TAKING_BACK" = some (.int 3 t) := T.int _ _ (T.fa 111 rfl)
theorem Tx.i_REMARK_records (T : Tx K mg) : ∃ t, mg "REMARK_records" = some (.int 4 t) := T.int _ _ (T.fa 112 rfl)
theorem Tx.i_APPROVED (T : Tx K mg) : ∃ t, mg "APPROVED" = some (.int 4 t) := T.int _ _ (T.fa 113 rfl)
theorem Tx.i_PERSONS (T : Tx K mg) : ∃ t, mg "PERSONS" = some (.int 256 t) := T.int _ _ (T.fa 114 rfl)
theorem Tx.i_MOST_OVER (T : Tx K mg) : ∃ t, mg "MOST_OVER" = some (.int 16 t) := T.int _ _ (T.fa 115 rfl)
theorem Tx.i_MOST_RECORDS (T : Tx K mg) : ∃ t, mg "MOST_RECORDS" = some (.int 256 t) := T.int _ _ (T.fa 116 rfl)
theorem Tx.i_MOST_PIECES (T : Tx K mg) : ∃ t, mg "MOST_PIECES" = some (.int 16384 t) := T.int _ _ (T.fa 117 rfl)
theorem Tx.i_CHARACTER (T : Tx K mg) : ∃ t, mg "CHARACTER" = some (.int 0 t) := T.int _ _ (T.fa 118 rfl)
theorem Tx.i_OPENING (T : Tx K mg) : ∃ t, mg "OPENING" = some (.int 1 t) := T.int _ _ (T.fa 119 rfl)
theorem Tx.i_CLOSING (T : Tx K mg) : ∃ t, mg "CLOSING" = some (.int 2 t) := T.int _ _ (T.fa 120 rfl)
theorem Tx.i_ALONE (T : Tx K mg) : ∃ t, mg "ALONE" = some (.int 3 t) := T.int _ _ (T.fa 121 rfl)
theorem Tx.i_BRACE (T : Tx K mg) : ∃ t, mg "BRACE" = some (.int 123 t) := T.int _ _ (T.fa 122 rfl)
theorem Tx.i_BRACE_END (T : Tx K mg) : ∃ t, mg "BRACE_END" = some (.int 125 t) := T.int _ _ (T.fa 123 rfl)
theorem Tx.i_PLUS (T : Tx K mg) : ∃ t, mg "PLUS" = some (.int 43 t) := T.int _ _ (T.fa 124 rfl)
theorem Tx.i_MINUS (T : Tx K mg) : ∃ t, mg "MINUS" = some (.int 45 t) := T.int _ _ (T.fa 125 rfl)
theorem Tx.i_POINT (T : Tx K mg) : ∃ t, mg "POINT" = some (.int 46 t) := T.int _ _ (T.fa 126 rfl)
theorem Tx.i_NOUGHT (T : Tx K mg) : ∃ t, mg "NOUGHT" = some (.int 48 t) := T.int _ _ (T.fa 127 rfl)
theorem Tx.i_NINE (T : Tx K mg) : ∃ t, mg "NINE" = some (.int 57 t) := T.int _ _ (T.fa 128 rfl)
theorem Tx.i_GREATEST_TAG (T : Tx K mg) : ∃ t, mg "GREATEST_TAG" = some (.int 999 t) := T.int _ _ (T.fa 129 rfl)
theorem Tx.i_GREATEST_CHARACTER (T : Tx K mg) : ∃ t, mg "GREATEST_CHARACTER" = some (.int 1114111 t) := T.int _ _ (T.fa 130 rfl)
theorem Tx.i_LAST_JOURNAL (T : Tx K mg) : ∃ t, mg "LAST_JOURNAL" = some (.int 2 t) := T.int _ _ (T.fa 131 rfl)
theorem Tx.i_LAST_PERSON (T : Tx K mg) : ∃ t, mg "LAST_PERSON" = some (.int 255 t) := T.int _ _ (T.fa 132 rfl)
theorem Tx.i_TICKS (T : Tx K mg) : ∃ t, mg "TICKS" = some (.int 1099511627776 t) := T.int _ _ (T.fa 133 rfl)
theorem Tx.i_STAMPS (T : Tx K mg) : ∃ t, mg "STAMPS" = some (.int 281474976710656 t) := T.int _ _ (T.fa 134 rfl)
theorem Tx.i_LAST_DOCUMENT (T : Tx K mg) : ∃ t, mg "LAST_DOCUMENT" = some (.int 15 t) := T.int _ _ (T.fa 135 rfl)
theorem Tx.i_LAST_SEGMENT (T : Tx K mg) : ∃ t, mg "LAST_SEGMENT" = some (.int 65535 t) := T.int _ _ (T.fa 136 rfl)
theorem Tx.i_LONGEST_TEXT (T : Tx K mg) : ∃ t, mg "LONGEST_TEXT" = some (.int 65536 t) := T.int _ _ (T.fa 137 rfl)
theorem Tx.i_LONGEST_ROW (T : Tx K mg) : ∃ t, mg "LONGEST_ROW" = some (.int 4096 t) := T.int _ _ (T.fa 138 rfl)
theorem Tx.i_WRITE (T : Tx K mg) : ∃ t, mg "WRITE" = some (.int 1 t) := T.int _ _ (T.fa 139 rfl)
theorem Tx.i_RULE (T : Tx K mg) : ∃ t, mg "RULE" = some (.int 2 t) := T.int _ _ (T.fa 140 rfl)
theorem Tx.i_BACK (T : Tx K mg) : ∃ t, mg "BACK" = some (.int 3 t) := T.int _ _ (T.fa 141 rfl)
theorem Tx.i_REMARK_journals (T : Tx K mg) : ∃ t, mg "REMARK_journals" = some (.int 4 t) := T.int _ _ (T.fa 142 rfl)
theorem Tx.i_STANDS (T : Tx K mg) : ∃ t, mg "STANDS" = some (.int 5 t) := T.int _ _ (T.fa 143 rfl)
theorem Tx.i_HEAD (T : Tx K mg) : ∃ t, mg "HEAD" = some (.int 6 t) := T.int _ _ (T.fa 144 rfl)
theorem Tx.i_SAID (T : Tx K mg) : ∃ t, mg "SAID" = some (.int 7 t) := T.int _ _ (T.fa 145 rfl)
theorem Tx.i_NEXT (T : Tx K mg) : ∃ t, mg "NEXT" = some (.int 8 t) := T.int _ _ (T.fa 146 rfl)
theorem Tx.i_TALLY (T : Tx K mg) : ∃ t, mg "TALLY" = some (.int 9 t) := T.int _ _ (T.fa 147 rfl)
theorem Tx.i_COUNT (T : Tx K mg) : ∃ t, mg "COUNT" = some (.int 10 t) := T.int _ _ (T.fa 148 rfl)
theorem Tx.i_RECORD (T : Tx K mg) : ∃ t, mg "RECORD" = some (.int 11 t) := T.int _ _ (T.fa 149 rfl)
theorem Tx.i_PUT (T : Tx K mg) : ∃ t, mg "PUT" = some (.int 12 t) := T.int _ _ (T.fa 150 rfl)
theorem Tx.i_MERGE (T : Tx K mg) : ∃ t, mg "MERGE" = some (.int 13 t) := T.int _ _ (T.fa 151 rfl)
theorem Tx.i_LACKS (T : Tx K mg) : ∃ t, mg "LACKS" = some (.int 14 t) := T.int _ _ (T.fa 152 rfl)
theorem Tx.g_LEAD_MARKS (T : Tx K mg) : mg "LEAD_MARKS" = some (.ref (He.ga K "LEAD_MARKS")) := T.glo _ (T.fa 153 rfl)
theorem Tx.g_LEAST_NUMBERS (T : Tx K mg) : mg "LEAST_NUMBERS" = some (.ref (He.ga K "LEAST_NUMBERS")) := T.glo _ (T.fa 154 rfl)
theorem Tx.g_FORMS (T : Tx K mg) : mg "FORMS" = some (.ref (He.ga K "FORMS")) := T.glo _ (T.fa 155 rfl)
theorem Tx.b_all (T : Tx K mg) : mg "all" = none := T.free _ (T.fa 156 rfl)
theorem Tx.b_range (T : Tx K mg) : mg "range" = none := T.free _ (T.fa 157 rfl)
theorem Tx.b_zip (T : Tx K mg) : mg "zip" = none := T.free _ (T.fa 158 rfl)
theorem Tx.b_any (T : Tx K mg) : mg "any" = none := T.free _ (T.fa 159 rfl)
theorem Tx.b_enumerate (T : Tx K mg) : mg "enumerate" = none := T.free _ (T.fa 160 rfl)
theorem Tx.b_sorted (T : Tx K mg) : mg "sorted" = none := T.free _ (T.fa 161 rfl)
theorem Tx.b_len (T : Tx K mg) : mg "len" = none := T.free _ (T.fa 162 rfl)
theorem Tx.b_max (T : Tx K mg) : mg "max" = none := T.free _ (T.fa 163 rfl)
theorem Tx.b_min (T : Tx K mg) : mg "min" = none := T.free _ (T.fa 164 rfl)
theorem Tx.b_sum (T : Tx K mg) : mg "sum" = none := T.free _ (T.fa 165 rfl)
theorem Tx.t_LEAD_MARKS (T : Tx K mg) (H : Hp) : SqT K H (He.ga K "LEAD_MARKS") [V.int 0, V.int 0, V.int 192, V.int 224, V.int 240] := He.tupB_ok (Bool.and_eq_true_iff.mp (Bool.and_eq_true_iff.mp T.ex).1).1 H
theorem Tx.t_LEAST_NUMBERS (T : Tx K mg) (H : Hp) : SqT K H (He.ga K "LEAST_NUMBERS") [V.int 0, V.int 0, V.int 128, V.int 2048, V.int 65536] := He.tupB_ok (Bool.and_eq_true_iff.mp (Bool.and_eq_true_iff.mp T.ex).1).2 H
theorem Tx.d_FORMS (T : Tx K mg) : tabB K (He.ga K "FORMS") tab_FORMS = true := (Bool.and_eq_true_iff.mp T.ex).2
end
end Fj
set_option Elab.async false
set_option linter.all false
set_option maxRecDepth 100000
set_option maxHeartbeats 4000000
namespace Fj
open PySem PySem.Spec PyProof.Rows L2
theorem ok_nox {X : Cx} {body : List Stmt} {D : Ends} {σ : L2.St} {H : Hp} (h : ∃ t, PSs X.nox body t ∧ t D σ H) : ∃ t, PSs X body t ∧ t D σ H := by
  obtain ⟨t, q1, q2⟩ := h
  exact ⟨t, q1.nox, q2⟩
section
variable {P : Program} {w : World} {K : PySem.W.Frag} {mg : Str → Option Value} {base : Heap}
/-- one int in, one value out, the heap as it was -/
def spI1 (g : Int → V) : Sp := fun vs H Q _ => ∃ n : Int, vs = [.int n] ∧ Q (g n) H
def spI2 (g : Int → Int → V) : Sp := fun vs H Q _ => ∃ m n : Int, vs = [.int m, .int n] ∧ Q (g m n) H
def tagKind (n : Int) : Int := if n = 43 then 1 else if n = 45 then 2 else if n = 46 then 3 else 0
theorem sc_tag_kind : FnScope ["sign"] ["sign"] (defScope s_tag_kind) := ⟨rfl, rfl, rfl, by decide +kernel, rfl, by decide +kernel, by decide +kernel⟩
theorem ok_tag_kind (T : Tx K mg) : OkF P w K mg base 1 "tag_kind" ["sign"] (spI1 fun n => .int (tagKind n)) := by
  refine okf (d := d_tag_kind) 11 11 (N := ["sign"]) T rfl rfl rfl rfl rfl sc_tag_kind (fun _ _ _ _ _ _ us hl => match us, hl with | [_], _ => rfl) (fun vs H Q E h => ?_) (fun f cdv A outer s H vs Q E hr h => ?_)
  · obtain ⟨n, rfl, h⟩ := h
    rfl
  · obtain ⟨n, rfl, h⟩ := h
    have hu := hu_of hr
    refine ⟨_, (pss_cons (ps_if (pt_cmpR op_eq (pv 0) (pe_gi T.i_PLUS) (nomark _)) (pss_one (ps_ret (pe_gi T.i_OPENING))) pss_nil)
      (pss_cons (ps_if (pt_cmpR op_eq (pv 0) (pe_gi T.i_MINUS) (nomark _)) (pss_one (ps_ret (pe_gi T.i_CLOSING))) pss_nil)
      (pss_cons (ps_if (pt_cmpR op_eq (pv 0) (pe_gi T.i_POINT) (nomark _)) (pss_one (ps_ret (pe_gi T.i_ALONE))) pss_nil)
      (pss_one (ps_ret (pe_gi T.i_CHARACTER)))))), ?_⟩
    simp only [tagKind] at h
    simp [tSeq, tIfS, tTest, tOp, rEq, tVar, tC, tRet, tNext, L2.start, scal]
    repeat (split <;> simp_all)
/-- nextChar over ints -/
def firstChar (n : Int) : Int := if n < 32 then 32 else if 127 ≤ n ∧ n ≤ 159 then 160 else if 55296 ≤ n ∧ n ≤ 57343 then 57344 else if 65534 ≤ n % 65536 then (n / 65536 + 1) * 65536 else n
theorem sc_first_character_from : FnScope ["number"] ["number"] (defScope s_first_character_from) := ⟨rfl, rfl, rfl, by decide +kernel, rfl, by decide +kernel, by decide +kernel⟩
theorem ok_first_character_from (T : Tx K mg) : OkF P w K mg base 1 "first_character_from" ["number"] (spI1 fun n => .int (firstChar n)) := by
  refine okf (d := d_first_character_from) 17 17 (N := ["number"]) T rfl rfl rfl rfl rfl sc_first_character_from (fun _ _ _ _ _ _ us hl => match us, hl with | [_], _ => rfl) (fun vs H Q E h => ?_) (fun f cdv A outer s H vs Q E hr h => ?_)
  · obtain ⟨n, rfl, h⟩ := h
    rfl
  · obtain ⟨n, rfl, h⟩ := h
    have hu := hu_of hr
    refine ⟨_, (pss_cons (ps_if (pt_cmpR op_lt (pv 0) pe_int (nomark _)) (pss_one (ps_ret pe_int)) pss_nil)
      (pss_cons (ps_if (PW.pt (pw_and (pt_cmpR op_le pe_int (pv 0) (nomark _)) (pw_and1 (pt_cmpR op_le (pv 0) pe_int (nomark _))))) (pss_one (ps_ret pe_int)) pss_nil)
      (pss_cons (ps_if (PW.pt (pw_and (pt_cmpR op_le pe_int (pv 0) (nomark _)) (pw_and1 (pt_cmpR op_le (pv 0) pe_int (nomark _))))) (pss_one (ps_ret pe_int)) pss_nil)
      (pss_cons (ps_if (pt_cmpR op_ge (pe_op op_mod (pv 0) pe_int) pe_int (nomark _)) (pss_one (ps_ret (pe_op op_mul (pe_op op_add (pe_op op_fdiv (pv 0) pe_int) pe_int) pe_int))) pss_nil)
      (pss_one (ps_ret (pv 0))))))), ?_⟩
    simp only [firstChar] at h
    simp [tSeq, tIfS, tTest, tOp, rEq, rI0, rI, tVar, tC, tRet, tNext, L2.start, scal, tAnd, CDiv, CMul]
    repeat' split
    all_goals (first | (simp_all; done) | (simp_all; omega))
def lenBy (n : Int) : Int := if n < 128 then 1 else if n < 192 then 0 else if n < 224 then 2 else if n < 240 then 3 else if n < 248 then 4 else 0
theorem sc_length_by_lead : FnScope ["lead"] ["lead"] (defScope s_length_by_lead) := ⟨rfl, rfl, rfl, by decide +kernel, rfl, by decide +kernel, by decide +kernel⟩
theorem ok_length_by_lead (T : Tx K mg) : OkF P w K mg base 1 "length_by_lead" ["lead"] (spI1 fun n => .int (lenBy n)) := by
  refine okf (d := d_length_by_lead) 15 15 (N := ["lead"]) T rfl rfl rfl rfl rfl sc_length_by_lead (fun _ _ _ _ _ _ us hl => match us, hl with | [_], _ => rfl) (fun vs H Q E h => ?_) (fun f cdv A outer s H vs Q E hr h => ?_)
  · obtain ⟨n, rfl, h⟩ := h
    rfl
  · obtain ⟨n, rfl, h⟩ := h
    have hu := hu_of hr
    refine ⟨_, (pss_cons (ps_if (pt_cmpR op_lt (pv 0) pe_int (nomark _)) (pss_one (ps_ret pe_int)) pss_nil)
      (pss_cons (ps_if (pt_cmpR op_lt (pv 0) pe_int (nomark _)) (pss_one (ps_ret pe_int)) pss_nil)
      (pss_cons (ps_if (pt_cmpR op_lt (pv 0) pe_int (nomark _)) (pss_one (ps_ret pe_int)) pss_nil)
      (pss_cons (ps_if (pt_cmpR op_lt (pv 0) pe_int (nomark _)) (pss_one (ps_ret pe_int)) pss_nil)
      (pss_cons (ps_if (pt_cmpR op_lt (pv 0) pe_int (nomark _)) (pss_one (ps_ret pe_int)) pss_nil)
      (pss_one (ps_ret pe_int))))))), ?_⟩
    simp only [lenBy] at h
    simp [tSeq, tIfS, tTest, tOp, rEq, rI0, rI, tVar, tC, tRet, tNext, L2.start, scal, tAnd, CDiv, CMul]
    repeat' split
    all_goals (first | (simp_all; done) | (simp_all; omega))
def goesI (v c : Int) : Bool := decide (48 ≤ c ∧ c ≤ 57 ∧ 1 ≤ v * 10 + c - 48 ∧ v * 10 + c - 48 ≤ 999)
theorem sc_tag_number_goes_on : FnScope ["number", "sign", "longer"] ["number", "sign"] (defScope s_tag_number_goes_on) := ⟨rfl, rfl, rfl, by decide +kernel, rfl, by decide +kernel, by decide +kernel⟩
theorem ok_tag_number_goes_on (T : Tx K mg) : OkF P w K mg base 1 "tag_number_goes_on" ["number", "sign"] (spI2 fun m n => .bl (goesI m n)) := by
  refine okf (d := d_tag_number_goes_on) 13 13 (N := ["number", "sign", "longer"]) T rfl rfl rfl rfl rfl sc_tag_number_goes_on (fun _ _ _ _ _ _ us hl => match us, hl with | [_, _], _ => rfl) (fun vs H Q E h => ?_) (fun f cdv A outer s H vs Q E hr h => ?_)
  · obtain ⟨m, n, rfl, h⟩ := h
    rfl
  · obtain ⟨m, n, rfl, h⟩ := h
    have hu := hu_of hr
    refine ⟨_, (pss_cons (ps_if (PW.pt (pw_or (pt_cmpR op_lt (pv 1) (pe_gi T.i_NOUGHT) (nomark _)) (pw_or1 (pt_cmpR op_gt (pv 1) (pe_gi T.i_NINE) (nomark _))))) (pss_one (ps_ret pe_bl)) pss_nil)
      (pss_cons (ps_set (i := 2) sc_tag_number_goes_on.nd rfl (Or.inl rfl) (pe_op op_sub (pe_op op_add (pe_op op_mul (pv 0) pe_int) (pv 1)) (pe_gi T.i_NOUGHT)))
      (pss_one (ps_ret (pe_and (pe_cmpR op_le pe_int (pv 2) (nomark _)) (pe_one (pe_cmpR op_le (pv 2) (pe_gi T.i_GREATEST_TAG) (nomark _)))))))), ?_⟩
    simp only [goesI] at h
    simp [tSeq, tIfS, tTest, tOp, rEq, rNe, rI0, rI, tVar, tC, tRet, tNext, L2.start, scal_ii, scal_nn, scal_in, scal_ni, scal_bb, line1, line2, line3, line7, tAnd, tOr, tNot, CDiv, CMul, tAsg, gName, tAndV, tOrV, tNotV, tCall, tCons, tNil, tCB, rU, tUn, tIf, tB, cx_K, cx_noxK, rIxL, rIxT]
    have e : ∀ b, b = decide (48 ≤ n ∧ n ≤ 57 ∧ 1 ≤ m * 10 + n - 48 ∧ m * 10 + n - 48 ≤ 999) → Q (.bl b) H := fun b e => e ▸ h
    repeat' split
    all_goals (apply e; rw [Bool.eq_iff_iff]; simp; omega)
theorem firstChar_nat (n : Nat) : firstChar (n : Int) = (Fh.nextChar n : Nat) := by
  unfold firstChar Fh.nextChar
  repeat' split
  all_goals omega
theorem lenBy_nat (n : Nat) : lenBy (n : Int) = (Fh.lengthBy n : Nat) := by
  unfold lenBy Fh.lengthBy
  repeat' split
  all_goals omega
theorem goesI_nat (v c : Nat) : goesI (v : Int) (c : Int) = goes v c := by
  unfold goesI goes
  rw [Bool.eq_iff_iff]
  simp only [decide_eq_true_eq]
  omega
theorem least_at {n : Nat} (h1 : 1 ≤ n) (h4 : n ≤ 4) : ([V.int 0, V.int 0, V.int 128, V.int 2048, V.int 65536] : List V)[n]? = some (.int (Fh.leastOf n : Nat)) := by
  have : n = 1 ∨ n = 2 ∨ n = 3 ∨ n = 4 := by omega
  rcases this with rfl | rfl | rfl | rfl <;> rfl
theorem lead_at {n : Nat} (h1 : 1 ≤ n) (h4 : n ≤ 4) : ([V.int 0, V.int 0, V.int 192, V.int 224, V.int 240] : List V)[n]? = some (.int ((if n = 1 then 0 else if n = 2 then 0xC0 else if n = 3 then 0xE0 else 0xF0 : Nat) : Int)) := by
  have : n = 1 ∨ n = 2 ∨ n = 3 ∨ n = 4 := by omega
  rcases this with rfl | rfl | rfl | rfl <;> rfl
def lowP (v i : Nat) : Nat := v * 64 ^ i
def highP (v i : Nat) : Nat := v * 64 ^ i + (64 ^ i - 1)
theorem low_step (v i : Nat) : ((lowP v i : Nat) : Int) * 64 = (lowP v (i + 1) : Nat) := by
  unfold lowP
  rw [Nat.pow_succ, ← Nat.mul_assoc]
  omega
theorem high_step (v i : Nat) : ((highP v i : Nat) : Int) * 64 + 63 = (highP v (i + 1) : Nat) := by
  unfold highP
  have p : 0 < 64 ^ i := Nat.pow_pos (by decide)
  rw [Nat.pow_succ, ← Nat.mul_assoc]
  omega
theorem leads_int (v n m : Nat) : leads v n m = decide (firstChar (if ((lowP v m : Nat) : Int) < (Fh.leastOf n : Nat) then ((Fh.leastOf n : Nat) : Int) else (lowP v m : Nat)) ≤ if (1114111 : Int) < (highP v m : Nat) then 1114111 else ((highP v m : Nat) : Int)) := by
  have e : (if ((lowP v m : Nat) : Int) < (Fh.leastOf n : Nat) then ((Fh.leastOf n : Nat) : Int) else (lowP v m : Nat)) = ((max (lowP v m) (Fh.leastOf n) : Nat) : Int) := by
    split <;> omega
  have e2 : (if (1114111 : Int) < (highP v m : Nat) then 1114111 else ((highP v m : Nat) : Int)) = ((min (highP v m) 0x10FFFF : Nat) : Int) := by
    split <;> omega
  rw [e, e2, firstChar_nat]
  unfold leads lowP highP
  rw [Bool.eq_iff_iff]
  simp only [decide_eq_true_eq]
  omega
def spLeads : Sp := fun vs H Q _ => ∃ v n m : Nat, vs = [.int v, .int n, .int m] ∧ 1 ≤ n ∧ n ≤ 4 ∧ m ≤ 4 ∧ Q (.bl (leads v n m)) H
theorem sc_leads_to_character : FnScope ["number", "length", "missing", "low", "high", "turn", "first"] ["number", "length", "missing"] (defScope s_leads_to_character) := ⟨rfl, rfl, rfl, by decide +kernel, rfl, by decide +kernel, by decide +kernel⟩
theorem ok_leads_to_character (T : Tx K mg) : OkF P w K mg base 2 "leads_to_character" ["number", "length", "missing"] spLeads := by
  refine okf (d := d_leads_to_character) 16 16 (N := ["number", "length", "missing", "low", "high", "turn", "first"]) T rfl rfl rfl rfl rfl sc_leads_to_character (fun _ _ _ _ _ _ us hl => match us, hl with | [_, _, _], _ => rfl) (fun vs H Q E h => ?_) (fun f cdv A outer s H vs Q E hr h => ?_)
  · obtain ⟨v, n, m, rfl, h1, h4, hm, h⟩ := h
    rfl
  · obtain ⟨v, n, m, rfl, h1, h4, hm, h⟩ := h
    have hu := hu_of hr
    refine ⟨_, (pss_cons (ps_set (i := 3) sc_leads_to_character.nd rfl (Or.inl rfl) (pv 0))
      (pss_cons (ps_set (i := 4) sc_leads_to_character.nd rfl (Or.inl rfl) (pv 0))
      (pss_cons (ps_for PassesOwn.never rfl (pi_range1 (by rfl) T.b_range (pa_cons (pv 2) pa_nil)) (pg_name (i := 5) sc_leads_to_character.nd rfl (Or.inl rfl))
        (pss_cons (ps_set (i := 3) sc_leads_to_character.nd rfl (Or.inl rfl) (pe_op op_mul (pv 3) pe_int))
      (pss_one (ps_set (i := 4) sc_leads_to_character.nd rfl (Or.inl rfl) (pe_op op_add (pe_op op_mul (pv 4) pe_int) pe_int)))))
      (pss_cons (ps_set (i := 6) sc_leads_to_character.nd rfl (Or.inl rfl) (pe_callF (ok_first_character_from T) (hr.mono (by decide)) (pa_cons (pe_callB (call_max2 rfl) (by rfl) T.b_max (by decide +kernel) (pa_cons (pv 3) (pa_cons (pe_ix ix_tup (pe_gr T.g_LEAST_NUMBERS) (pv 1) (fun _ _ => rfl)) pa_nil))) pa_nil)))
      (pss_one (ps_ret (pe_cmpR op_le (pv 6) (pe_callB (call_min2 rfl) (by rfl) T.b_min (by decide +kernel) (pa_cons (pv 4) (pa_cons (pe_gi T.i_GREATEST_CHARACTER) pa_nil))) (nomark _)))))))), ?_⟩
    simp [tSeq, tIfS, tTest, tOp, rEq, rNe, rI0, rI, tVar, tC, tRet, tNext, L2.start, scal_ii, scal_nn, scal_in, scal_ni, scal_bb, line1, line2, line3, line7, tAnd, tOr, tNot, CDiv, CMul, tAsg, gName, tAndV, tOrV, tNotV, tCall, tCons, tNil, tCB, rU, tUn, tIf, tB, cx_K, cx_noxK, rIxL, rIxT]
    refine ⟨_, rfl, _, rfl, by omega, by omega, for_range (lo := 0) (n := m) (fun i σ H' => H' = H ∧ ∃ t, σ = [some (.int v), some (.int n), some (.int m), some (.int (lowP v i : Nat)), some (.int (highP v i : Nat)), t, none])
      ⟨rfl, none, by simp [lowP, highP]⟩ ?_ ?_⟩
    · rintro i σ H' hi ⟨rfl, t, rfl⟩
      simp [tSeq, tIfS, tTest, tOp, rEq, rNe, rI0, rI, tVar, tC, tRet, tNext, L2.start, scal_ii, scal_nn, scal_in, scal_ni, scal_bb, line1, line2, line3, line7, tAnd, tOr, tNot, CDiv, CMul, tAsg, gName, tAndV, tOrV, tNotV, tCall, tCons, tNil, tCB, rU, tUn, tIf, tB, cx_K, cx_noxK, rIxL, rIxT, low_step, high_step]
    · rintro σ H' ⟨rfl, t, rfl⟩
      simp [tSeq, tIfS, tTest, tOp, rEq, rNe, rI0, rI, tVar, tC, tRet, tNext, L2.start, scal_ii, scal_nn, scal_in, scal_ni, scal_bb, line1, line2, line3, line7, tAnd, tOr, tNot, CDiv, CMul, tAsg, gName, tAndV, tOrV, tNotV, tCall, tCons, tNil, tCB, rU, tUn, tIf, tB, cx_K, cx_noxK, rIxL, rIxT, rIxT, spI1]
      rw [leads_int] at h
      exact ⟨_, T.t_LEAST_NUMBERS _, _, atI_nat (least_at h1 h4), _, _, ⟨rfl, rfl⟩, _, _, ⟨rfl, rfl⟩, h⟩
end
end Fj
set_option Elab.async false
set_option linter.all false
set_option maxRecDepth 100000
set_option maxHeartbeats 4000000
namespace Fj
open PySem PySem.Spec PyProof.Rows L2
open Fh (Bytes Piece Row)
/-- bytes as the program has them -/
def bv (b : Bytes) : List V := b.map fun c => .int (c.toNat : Nat)
theorem bv_len (b : Bytes) : (bv b).length = b.length := by unfold bv; rw [List.length_map]
theorem bv_at {b : Bytes} {i : Nat} {c : UInt8} (h : b[i]? = some c) : atI (bv b) ((i : Nat) : Int) = some (.int (c.toNat : Nat)) := atI_nat (by unfold bv; rw [List.getElem?_map, h]; rfl)
theorem drop_at {b : Bytes} {i : Nat} {c : UInt8} (h : b[i]? = some c) : b.drop i = c :: b.drop (i + 1) := by
  obtain ⟨hi, e⟩ := List.getElem?_eq_some_iff.mp h
  rw [← e]
  exact (List.drop_eq_getElem_cons hi)
theorem at_lt {b : Bytes} {i : Nat} (h : i < b.length) : ∃ c, b[i]? = some c := ⟨b[i], List.getElem?_eq_getElem h⟩
def TagAt (H : Hp) (q : Addr) (p : Nat) (k : Int) : Except Nat (Nat × Nat) → Prop
  | .ok x => ∃ t, H q = some (.tup [.ref t, .int ((p + x.2 + 1 : Nat) : Int)]) ∧ H t = some (.tup [.int k, .int (x.1 : Nat)])
  | .error e => H q = some (.tup [.non, .int ((p + e : Nat) : Int)])
def spTag (K : PySem.W.Frag) : Sp := fun vs H Q _ => ∃ (a : Addr) (b : Bytes) (p : Nat) (k : Int), vs = [.ref a, .int (p : Nat), .int k] ∧ SqL K H a (bv b) ∧ p ≤ b.length ∧
  ∀ H' q, Same H H' → TagAt H' q p k (Fh.digitsHere 0 0 (b.drop p)) → Q (.ref q) H'
def TagInv (H : Hp) (a : Addr) (b : Bytes) (p : Nat) (k : Int) : Nat → L2.St → Hp → Prop := fun m σ H' => H' = H ∧ ∃ n v i : Nat, i = p + n ∧ m = b.length - i ∧ σ = [some (.ref a), some (.int (p : Nat)), some (.int k), some (.int (v : Nat)), some (.int (i : Nat))] ∧ DI n v ∧ i ≤ b.length ∧
      Fh.digitsHere 0 0 (b.drop p) = shift n (Fh.digitsHere n v (b.drop i))
section
variable {P : Program} {w : World} {K : PySem.W.Frag} {mg : Str → Option Value} {base : Heap}
/-- a new tuple of two -/
theorem same_upd {H : Hp} {p : Addr} {o : HO} (h : H p = none) : Same H (upd H p o) := fun b o' e => by
  rw [upd_ne (ne_of_none e h)]
  exact e
theorem sc_read_tag_number : FnScope ["text", "place", "kind", "number", "at"] ["text", "place", "kind"] (defScope s_read_tag_number) := ⟨rfl, rfl, rfl, by decide +kernel, rfl, by decide +kernel, by decide +kernel⟩
theorem ok_read_tag_number (T : Tx K mg) : OkF P w K mg base 2 "read_tag_number" ["text", "place", "kind"] (spTag K) := by
  refine okf (d := d_read_tag_number) 12 12 (N := ["text", "place", "kind", "number", "at"]) T rfl rfl rfl rfl rfl sc_read_tag_number (fun _ _ _ _ _ _ us hl => match us, hl with | [_, _, _], _ => rfl) (fun vs H Q E h => ?_) (fun f cdv A outer s H vs Q E hr h => ?_)
  · obtain ⟨a, b, p, k, rfl, hS, hp, h⟩ := h
    rfl
  · obtain ⟨a, b, p, k, rfl, hS, hp, h⟩ := h
    have hu := hu_of hr
    refine ⟨_, (pss_cons (ps_set (i := 3) sc_read_tag_number.nd rfl (Or.inl rfl) pe_int)
      (pss_cons (ps_set (i := 4) sc_read_tag_number.nd rfl (Or.inl rfl) (pv 1))
      (pss_cons (ps_while PassesOwn.never (PW.pt (pw_and (pt_cmpR op_lt (pv 4) (pe_callB call_len_seq (by rfl) T.b_len PySem.boot_len (pa_cons (pv 0) pa_nil)) (nomark _)) (pw_and1 (pt_val (pe_callF (ok_tag_number_goes_on T) (hr.mono (by decide)) (pa_cons (pv 3) (pa_cons (pe_ix ix_list (pv 0) (pv 4) (fun _ _ => rfl)) pa_nil))))))) (pss_cons (ps_set (i := 3) sc_read_tag_number.nd rfl (Or.inl rfl) (pe_op op_sub (pe_op op_add (pe_op op_mul (pv 3) pe_int) (pe_ix ix_list (pv 0) (pv 4) (fun _ _ => rfl))) (pe_gi T.i_NOUGHT)))
      (pss_one (ps_set (i := 4) sc_read_tag_number.nd rfl (Or.inl rfl) (pe_op op_add (pv 4) pe_int)))))
      (pss_cons (ps_if (PW.pt (pw_and (pt_cmpR op_lt (pv 4) (pe_callB call_len_seq (by rfl) T.b_len PySem.boot_len (pa_cons (pv 0) pa_nil)) (nomark _)) (pw_and (pt_cmpR op_gt (pv 3) pe_int (nomark _)) (pw_and1 (pt_cmpR op_eq (pe_ix ix_list (pv 0) (pv 4) (fun _ _ => rfl)) (pe_gi T.i_BRACE_END) (nomark _)))))) (pss_one (ps_ret (pe_tup (pa_cons (pe_tup (pa_cons (pv 2) (pa_cons (pv 3) pa_nil))) (pa_cons (pe_op op_add (pv 4) pe_int) pa_nil))))) pss_nil)
      (pss_one (ps_ret (pe_tup (pa_cons pe_non (pa_cons (pv 4) pa_nil))))))))), ?_⟩
    simp [tSeq, tIfS, tTest, tOp, rEq, rNe, rI0, rI, tVar, tC, tRet, tNext, L2.start, scal_ii, scal_nn, scal_in, scal_ni, scal_bb, line1, line2, line3, line7, tAnd, tOr, tNot, CDiv, CMul, tAsg, gName, tAndV, tOrV, tNotV, tCall, tCons, tNil, tCB, rU, tUn, tIf, tB, cx_K, cx_noxK, rIxL, rIxT]
    refine ⟨TagInv H a b p k, ⟨_, rfl, 0, 0, p, rfl, rfl, rfl, .inl ⟨rfl, rfl⟩, hp, (shift_zero _).symm⟩, ?_⟩
    rintro m σ H' ⟨rfl, n, v, i, hi, rfl, rfl, di, hn, e⟩
    simp [tSeq, tIfS, tTest, tOp, rEq, rNe, rI0, rI, tVar, tC, tRet, tNext, L2.start, scal_ii, scal_nn, scal_in, scal_ni, scal_bb, line1, line2, line3, line7, tAnd, tOr, tNot, CDiv, CMul, tAsg, gName, tAndV, tOrV, tNotV, tCall, tCons, tNil, tCB, rU, tUn, tIf, tB, cx_K, cx_noxK, rIxL, rIxT, spI2]
    refine ⟨_, .inl hS, ?_⟩
    rw [bv_len]
    by_cases hi2 : i < b.length
    · rw [if_pos hi2]
      obtain ⟨c, hc⟩ := at_lt hi2
      have ed := drop_at hc
      refine ⟨_, hS, _, bv_at hc, _, _, ⟨rfl, rfl⟩, ?_⟩
      rw [goesI_nat]
      cases g : goes v c.toNat with
      | true =>
        rw [if_pos rfl]
        obtain ⟨e1, di2⟩ := dig_go (r := b.drop (i + 1)) di g
        refine ⟨TagInv H' a b p k (b.length - (i + 1)), fun _ _ h => ⟨_, by omega, h⟩, _, hS, _, bv_at hc, _, rfl, rfl, n + 1, v * 10 + c.toNat - 48, i + 1, by omega, rfl, ?_, di2, by omega, ?_⟩
        · have g := of_decide_eq_true g
          have z : (v : Int) * 10 + (c.toNat : Nat) - 48 = ((v * 10 + c.toNat - 48 : Nat) : Int) := by omega
          rw [z]
          rfl
        · rw [e, ed, e1, shift_shift]
      | false =>
        rw [if_neg (by decide)]
        refine ⟨_, .inl hS, ?_⟩
        rw [bv_len, if_pos hi2]
        rw [ed, dig_stop (r := b.drop (i + 1)) di g] at e
        by_cases hv : 0 < v
        · rw [if_pos hv]
          refine ⟨_, hS, _, bv_at hc, rfl, ?_⟩
          by_cases h5 : c.toNat = 125
          · rw [if_pos (by rw [h5]; rfl)]
            rw [if_pos ⟨hv, h5⟩] at e
            simp [tSeq, tIfS, tTest, tOp, rEq, rNe, rI0, rI, tVar, tC, tRet, tNext, L2.start, scal_ii, scal_nn, scal_in, scal_ni, scal_bb, line1, line2, line3, line7, tAnd, tOr, tNot, CDiv, CMul, tAsg, gName, tAndV, tOrV, tNotV, tCall, tCons, tNil, tCB, rU, tUn, tIf, tB, cx_K, cx_noxK, rIxL, rIxT, tTup]
            intro t ht q hq
            refine h _ _ ((same_upd ht).trans (same_upd hq)) ?_
            rw [e]
            refine ⟨t, ?_, ?_⟩
            · rw [upd_same, hi]
              rfl
            · rw [upd_ne (ne_of_none upd_same hq), upd_same]
          · rw [if_neg (fun z => h5 (by injection z with z; omega))]
            rw [if_neg (fun z => h5 z.2)] at e
            simp [tSeq, tIfS, tTest, tOp, rEq, rNe, rI0, rI, tVar, tC, tRet, tNext, L2.start, scal_ii, scal_nn, scal_in, scal_ni, scal_bb, line1, line2, line3, line7, tAnd, tOr, tNot, CDiv, CMul, tAsg, gName, tAndV, tOrV, tNotV, tCall, tCons, tNil, tCB, rU, tUn, tIf, tB, cx_K, cx_noxK, rIxL, rIxT, tTup]
            intro q hq
            refine h _ _ (same_upd hq) ?_
            rw [e]
            show upd _ _ _ _ = _
            rw [upd_same, hi, Nat.zero_add]
        · rw [if_neg hv]
          rw [if_neg (fun z => hv z.1)] at e
          simp [tSeq, tIfS, tTest, tOp, rEq, rNe, rI0, rI, tVar, tC, tRet, tNext, L2.start, scal_ii, scal_nn, scal_in, scal_ni, scal_bb, line1, line2, line3, line7, tAnd, tOr, tNot, CDiv, CMul, tAsg, gName, tAndV, tOrV, tNotV, tCall, tCons, tNil, tCB, rU, tUn, tIf, tB, cx_K, cx_noxK, rIxL, rIxT, tTup]
          intro q hq
          refine h _ _ (same_upd hq) ?_
          rw [e]
          show upd _ _ _ _ = _
          rw [upd_same, hi, Nat.zero_add]
    · rw [if_neg hi2]
      refine ⟨_, .inl hS, ?_⟩
      rw [bv_len, if_neg hi2]
      have hd : b.drop i = [] := List.drop_eq_nil_of_le (by omega)
      rw [hd, dig_nil] at e
      simp [tSeq, tIfS, tTest, tOp, rEq, rNe, rI0, rI, tVar, tC, tRet, tNext, L2.start, scal_ii, scal_nn, scal_in, scal_ni, scal_bb, line1, line2, line3, line7, tAnd, tOr, tNot, CDiv, CMul, tAsg, gName, tAndV, tOrV, tNotV, tCall, tCons, tNil, tCB, rU, tUn, tIf, tB, cx_K, cx_noxK, rIxL, rIxT, tTup]
      intro q hq
      refine h _ _ (same_upd hq) ?_
      rw [e]
      show upd _ _ _ _ = _
      rw [upd_same, hi, Nat.zero_add]
def kindOf : Piece → Int
  | .char _ => 0
  | .open_ _ => 1
  | .close _ => 2
  | .alone _ => 3
def numOf : Piece → Nat
  | .char c => c
  | .open_ n => n
  | .close n => n
  | .alone n => n
/-- what read_piece and its like give: at q a tuple of a piece's tuple and the place behind it, or of None and the fault -/
def FoundAt (H : Hp) (q : Addr) (p : Nat) : Except Nat (Piece × Nat) → Prop
  | .ok x => ∃ t, H q = some (.tup [.ref t, .int ((p + x.2 : Nat) : Int)]) ∧ H t = some (.tup [.int (kindOf x.1), .int (numOf x.1 : Nat)])
  | .error e => H q = some (.tup [.non, .int ((p + e : Nat) : Int)])
/-- read_character: what charHere tells -/
def spChar (K : PySem.W.Frag) : Sp := fun vs H Q _ => ∃ (a : Addr) (b : Bytes) (p : Nat), vs = [.ref a, .int (p : Nat)] ∧ SqL K H a (bv b) ∧ p < b.length ∧ b.length ≤ 1000000 ∧
  ∀ H' q, Same H H' → FoundAt H' q p (chrRes (Fh.charHere (b.drop p))) → Q (.ref q) H'
def ChrInv (H : Hp) (a : Addr) (b : Bytes) (p l : Nat) : Nat → L2.St → Hp → Prop := fun i σ H' => H' = H ∧ ∃ v t, σ = [some (.ref a), some (.int (p : Nat)), some (.int (l : Nat)), some (.int (v : Nat)), t] ∧
  (i = 0 → ∃ c, b[p]? = some c ∧ Fh.lengthBy c.toNat = l ∧ v = Fh.headOf l c.toNat) ∧ (1 ≤ i → VB l i v ∧ Fh.charHere (b.drop p) = chrAt l i v (b.drop (p + i))) ∧ p + i ≤ b.length
theorem found_err {H : Hp} {q : Addr} {p e : Nat} (hq : H q = none) : FoundAt (upd H q (.tup [.non, .int ((p + e : Nat) : Int)])) q p (.error e) := upd_same
theorem sc_read_character : FnScope ["text", "place", "length", "number", "at"] ["text", "place"] (defScope s_read_character) := ⟨rfl, rfl, rfl, by decide +kernel, rfl, by decide +kernel, by decide +kernel⟩
theorem ok_read_character (T : Tx K mg) : OkF P w K mg base 3 "read_character" ["text", "place"] (spChar K) := by
  refine okf (d := d_read_character) 14 14 (N := ["text", "place", "length", "number", "at"]) T rfl rfl rfl rfl rfl sc_read_character (fun _ _ _ _ _ _ us hl => match us, hl with | [_, _], _ => rfl) (fun vs H Q E h => ?_) (fun f cdv A outer s H vs Q E hr h => ?_)
  · obtain ⟨a, b, p, rfl, hS, hp, hl, h⟩ := h
    rfl
  · obtain ⟨a, b, p, rfl, hS, hp, hl, h⟩ := h
    have hu := hu_of hr
    refine ⟨_, (pss_cons (ps_set (i := 2) sc_read_character.nd rfl (Or.inl rfl) (pe_callF (ok_length_by_lead T) (hr.mono (by decide)) (pa_cons (pe_ix ix_list (pv 0) (pv 1) (fun _ _ => rfl)) pa_nil)))
      (pss_cons (ps_if (pt_cmpR op_eq (pv 2) pe_int (nomark _)) (pss_one (ps_ret (pe_tup (pa_cons pe_non (pa_cons (pv 1) pa_nil))))) pss_nil)
      (pss_cons (ps_set (i := 3) sc_read_character.nd rfl (Or.inl rfl) (pe_op op_sub (pe_ix ix_list (pv 0) (pv 1) (fun _ _ => rfl)) (pe_ix ix_tup (pe_gr T.g_LEAD_MARKS) (pv 2) (fun _ _ => rfl))))
      (pss_cons (ps_for PassesOwn.never rfl (pi_range2 (by rfl) T.b_range (pa_cons (pv 1) (pa_cons (pe_op op_add (pv 1) (pv 2)) pa_nil))) (pg_name (i := 4) sc_read_character.nd rfl (Or.inl rfl))
        (pss_cons (ps_if (pt_cmpR op_eq (pv 4) (pe_callB call_len_seq (by rfl) T.b_len PySem.boot_len (pa_cons (pv 0) pa_nil)) (nomark _)) (pss_one (ps_ret (pe_tup (pa_cons pe_non (pa_cons (pv 4) pa_nil))))) pss_nil)
      (pss_cons (ps_if (pt_cmpR op_gt (pv 4) (pv 1) (nomark _)) (pss_cons (ps_if (PW.pt (pw_or (pt_cmpR op_lt (pe_ix ix_list (pv 0) (pv 4) (fun _ _ => rfl)) pe_int (nomark _)) (pw_or1 (pt_cmpR op_gt (pe_ix ix_list (pv 0) (pv 4) (fun _ _ => rfl)) pe_int (nomark _))))) (pss_one (ps_ret (pe_tup (pa_cons pe_non (pa_cons (pv 4) pa_nil))))) pss_nil)
      (pss_one (ps_set (i := 3) sc_read_character.nd rfl (Or.inl rfl) (pe_op op_sub (pe_op op_add (pe_op op_mul (pv 3) pe_int) (pe_ix ix_list (pv 0) (pv 4) (fun _ _ => rfl))) pe_int)))) pss_nil)
      (pss_one (ps_if (pt_not (pt_val (pe_callF (ok_leads_to_character T) (hr.mono (by decide)) (pa_cons (pv 3) (pa_cons (pv 2) (pa_cons (pe_op op_sub (pe_op op_sub (pe_op op_add (pv 1) (pv 2)) pe_int) (pv 4)) pa_nil)))))) (pss_one (ps_ret (pe_tup (pa_cons pe_non (pa_cons (pv 4) pa_nil))))) pss_nil)))))
      (pss_one (ps_ret (pe_tup (pa_cons (pe_tup (pa_cons (pe_gi T.i_CHARACTER) (pa_cons (pv 3) pa_nil))) (pa_cons (pe_op op_add (pv 1) (pv 2)) pa_nil))))))))), ?_⟩
    obtain ⟨c, hc⟩ := at_lt hp
    have ed := drop_at hc
    simp [tSeq, tIfS, tTest, tOp, rEq, rNe, rI0, rI, tVar, tC, tRet, tNext, L2.start, scal_ii, scal_nn, scal_in, scal_ni, scal_bb, line1, line2, line3, line7, tAnd, tOr, tNot, CDiv, CMul, tAsg, gName, tAndV, tOrV, tNotV, tCall, tCons, tNil, tCB, rU, tUn, tIf, tB, cx_K, cx_noxK, rIxL, rIxT, spI1]
    refine ⟨_, hS, _, bv_at hc, _, rfl, ?_⟩
    rw [lenBy_nat]
    by_cases h0 : Fh.lengthBy c.toNat = 0
    · rw [if_pos (by rw [h0]; rfl)]
      simp [tSeq, tIfS, tTest, tOp, rEq, rNe, rI0, rI, tVar, tC, tRet, tNext, L2.start, scal_ii, scal_nn, scal_in, scal_ni, scal_bb, line1, line2, line3, line7, tAnd, tOr, tNot, CDiv, CMul, tAsg, gName, tAndV, tOrV, tNotV, tCall, tCons, tNil, tCB, rU, tUn, tIf, tB, cx_K, cx_noxK, rIxL, rIxT, tTup]
      intro q hq
      refine h _ _ (same_upd hq) ?_
      rw [ed, chr_zero h0]
      exact found_err (e := 0) hq
    rw [if_neg (by omega)]
    have l4 := lengthBy_le c.toNat
    have hs := head_sub rfl h0 (byte_lt c)
    generalize hn : Fh.lengthBy c.toNat = l at *
    refine ⟨_, hS, _, bv_at hc, _, T.t_LEAD_MARKS _, _, atI_nat (lead_at (by omega) l4), _, rfl, _, rfl, ?_⟩
    have ev : ((c.toNat : Nat) : Int) - ((if l = 1 then 0 else if l = 2 then 192 else if l = 3 then 224 else 240 : Nat) : Int) = (Fh.headOf l c.toNat : Nat) := by
      generalize (if l = 1 then 0 else if l = 2 then 192 else if l = 3 then 224 else 240 : Nat) = z at *
      omega
    rw [ev]
    have nl : ((p : Int) + (l : Int) - (p : Int)).toNat = l := by omega
    refine ⟨_, rfl, _, rfl, _, rfl, _, _, rfl, rfl, _, _, rfl, ⟨by omega, by omega, by omega, by omega⟩, for_range (lo := (p : Nat)) (n := ((p : Int) + (l : Int) - (p : Int)).toNat) (ChrInv H a b p l)
      ⟨rfl, _, none, rfl, fun _ => ⟨c, hc, hn, rfl⟩, fun z => absurd z (by omega), by omega⟩ ?_ ?_⟩
    · rintro i σ H' hi ⟨rfl, v, t, rfl, z0, z1, hpi⟩
      rw [nl] at hi
      obtain ⟨j, hj⟩ : ∃ j, j = p + i := ⟨_, rfl⟩
      have eat : (p : Int) + (i : Int) = ((j : Nat) : Int) := by omega
      rw [eat]
      simp [tSeq, tIfS, tTest, tOp, rEq, rNe, rI0, rI, tVar, tC, tRet, tNext, L2.start, scal_ii, scal_nn, scal_in, scal_ni, scal_bb, line1, line2, line3, line7, tAnd, tOr, tNot, CDiv, CMul, tAsg, gName, tAndV, tOrV, tNotV, tCall, tCons, tNil, tCB, rU, tUn, tIf, tB, cx_K, cx_noxK, rIxL, rIxT, spLeads]
      refine ⟨_, .inl hS, ?_⟩
      rw [bv_len]
      by_cases hjb : j = b.length
      · rw [if_pos (by omega)]
        by_cases hi0 : i = 0
        · omega
        obtain ⟨_, z1⟩ := z1 (Nat.pos_of_ne_zero hi0)
        rw [List.drop_eq_nil_of_le (show b.length ≤ p + i by omega), chrAt_nil hi l4] at z1
        simp [tSeq, tIfS, tTest, tOp, rEq, rNe, rI0, rI, tVar, tC, tRet, tNext, L2.start, scal_ii, scal_nn, scal_in, scal_ni, scal_bb, line1, line2, line3, line7, tAnd, tOr, tNot, CDiv, CMul, tAsg, gName, tAndV, tOrV, tNotV, tCall, tCons, tNil, tCB, rU, tUn, tIf, tB, cx_K, cx_noxK, rIxL, rIxT, tTup]
        intro q hq
        refine h _ _ (same_upd hq) ?_
        rw [z1, hj]
        exact found_err hq
      rw [if_neg (by omega)]
      by_cases hi0 : i = 0
      · subst hi0
        obtain ⟨c', hc', z2, z3⟩ := z0 rfl
        rw [hc] at hc'
        obtain rfl := Option.some.inj hc'
        have hvb : VB l 1 v := by rw [z3]; exact VB_head hn h0
        rw [if_neg (by omega)]
        refine ⟨v, l, l - 1, ⟨rfl, rfl, by omega⟩, by omega, l4, by omega, ?_⟩
        rw [leads_eq (k := 1) (by omega) l4 (by omega) (by omega) hvb]
        cases hm : Fh.mayBe l 1 v with
        | false =>
          rw [if_neg (by decide)]
          simp [tSeq, tIfS, tTest, tOp, rEq, rNe, rI0, rI, tVar, tC, tRet, tNext, L2.start, scal_ii, scal_nn, scal_in, scal_ni, scal_bb, line1, line2, line3, line7, tAnd, tOr, tNot, CDiv, CMul, tAsg, gName, tAndV, tOrV, tNotV, tCall, tCons, tNil, tCB, rU, tUn, tIf, tB, cx_K, cx_noxK, rIxL, rIxT, tTup]
          intro q hq
          refine h _ _ (same_upd hq) ?_
          rw [ed, chr_no (by rw [hn, ← z3]; exact hm), hj]
          exact found_err hq
        | true =>
          rw [if_pos rfl]
          refine ⟨rfl, v, _, rfl, fun z => absurd z (by omega), fun _ => ⟨hvb, ?_⟩, by omega⟩
          rw [ed, chr_go (by rw [hn]; exact h0) (by rw [hn, ← z3]; exact hm), hn, z3]
      · rw [if_pos (by omega)]
        obtain ⟨vb, z1⟩ := z1 (Nat.pos_of_ne_zero hi0)
        clear z0
        have hjl : j < b.length := by omega
        obtain ⟨d, hd⟩ := at_lt hjl
        have edj := drop_at hd
        rw [← hj, edj, chrAt_cons hi l4] at z1
        have db := byte_lt d
        refine ⟨_, hS, _, bv_at hd, _, rfl, ?_⟩
        by_cases lo : (d.toNat : Int) < 128
        · rw [if_pos lo]
          rw [if_neg (fun z => by omega)] at z1
          simp [tSeq, tIfS, tTest, tOp, rEq, rNe, rI0, rI, tVar, tC, tRet, tNext, L2.start, scal_ii, scal_nn, scal_in, scal_ni, scal_bb, line1, line2, line3, line7, tAnd, tOr, tNot, CDiv, CMul, tAsg, gName, tAndV, tOrV, tNotV, tCall, tCons, tNil, tCB, rU, tUn, tIf, tB, cx_K, cx_noxK, rIxL, rIxT, tTup]
          intro q hq
          refine h _ _ (same_upd hq) ?_
          rw [z1, hj]
          exact found_err hq
        rw [if_neg lo]
        refine ⟨_, hS, _, bv_at hd, _, rfl, ?_⟩
        by_cases hi' : 191 < (d.toNat : Int)
        · rw [if_pos hi']
          rw [if_neg (fun z => by omega)] at z1
          simp [tSeq, tIfS, tTest, tOp, rEq, rNe, rI0, rI, tVar, tC, tRet, tNext, L2.start, scal_ii, scal_nn, scal_in, scal_ni, scal_bb, line1, line2, line3, line7, tAnd, tOr, tNot, CDiv, CMul, tAsg, gName, tAndV, tOrV, tNotV, tCall, tCons, tNil, tCB, rU, tUn, tIf, tB, cx_K, cx_noxK, rIxL, rIxT, tTup]
          intro q hq
          refine h _ _ (same_upd hq) ?_
          rw [z1, hj]
          exact found_err hq
        rw [if_neg hi']
        have ew : (v : Int) * 64 + (d.toNat : Int) - 128 = ((v * 64 + d.toNat % 64 : Nat) : Int) := by omega
        have vb2 := VB_next (c := d.toNat) (Nat.pos_of_ne_zero hi0) hi vb
        refine ⟨_, hS, _, bv_at hd, _, rfl, v * 64 + d.toNat % 64, l, l - (i + 1), ⟨ew, rfl, by omega⟩, by omega, l4, by omega, ?_⟩
        rw [leads_eq (k := i + 1) (by omega) l4 (by omega) (by omega) vb2]
        cases hm : Fh.mayBe l (i + 1) (v * 64 + d.toNat % 64) with
        | false =>
          rw [if_neg (by decide)]
          rw [if_neg (fun z => by rw [hm] at z; exact absurd z.2 (by decide))] at z1
          simp [tSeq, tIfS, tTest, tOp, rEq, rNe, rI0, rI, tVar, tC, tRet, tNext, L2.start, scal_ii, scal_nn, scal_in, scal_ni, scal_bb, line1, line2, line3, line7, tAnd, tOr, tNot, CDiv, CMul, tAsg, gName, tAndV, tOrV, tNotV, tCall, tCons, tNil, tCB, rU, tUn, tIf, tB, cx_K, cx_noxK, rIxL, rIxT, tTup]
          intro q hq
          refine h _ _ (same_upd hq) ?_
          rw [z1, hj]
          exact found_err hq
        | true =>
          rw [if_pos rfl]
          rw [if_pos ⟨by omega, hm⟩] at z1
          refine ⟨rfl, _, _, by rw [ew], fun z => absurd z (by omega), fun _ => ⟨vb2, ?_⟩, by omega⟩
          rw [z1, hj]
          rfl
    · rintro σ H' ⟨rfl, v, t, rfl, z0, z1, hpi⟩
      rw [nl] at z1
      obtain ⟨_, z1⟩ := z1 (Nat.pos_of_ne_zero h0)
      rw [chrAt_done l4] at z1
      simp [tSeq, tIfS, tTest, tOp, rEq, rNe, rI0, rI, tVar, tC, tRet, tNext, L2.start, scal_ii, scal_nn, scal_in, scal_ni, scal_bb, line1, line2, line3, line7, tAnd, tOr, tNot, CDiv, CMul, tAsg, gName, tAndV, tOrV, tNotV, tCall, tCons, tNil, tCB, rU, tUn, tIf, tB, cx_K, cx_noxK, rIxL, rIxT, tTup]
      intro t ht q hq
      refine h _ _ ((same_upd ht).trans (same_upd hq)) ?_
      rw [z1]
      refine ⟨t, upd_same, ?_⟩
      rw [upd_ne (ne_of_none upd_same hq), upd_same]
      rfl
end
end Fj
set_option Elab.async false
set_option linter.all false
set_option maxRecDepth 100000
set_option maxHeartbeats 4000000
namespace Fj
open PySem PySem.Spec PyProof.Rows L2
open Fh (Bytes Piece Row)
/-- read_braced at the place behind a brace; read_piece -/
def spBraced (K : PySem.W.Frag) : Sp := fun vs H Q _ => ∃ (a : Addr) (b : Bytes) (p : Nat), vs = [.ref a, .int ((p + 1 : Nat) : Int)] ∧ SqL K H a (bv b) ∧ b[p]? = some 123 ∧
  ∀ H' q, Same H H' → FoundAt H' q p (Fh.pieceHere (b.drop p)) → Q (.ref q) H'
def spPiece (K : PySem.W.Frag) : Sp := fun vs H Q _ => ∃ (a : Addr) (b : Bytes) (p : Nat), vs = [.ref a, .int (p : Nat)] ∧ SqL K H a (bv b) ∧ p < b.length ∧ b.length ≤ 1000000 ∧
  ∀ H' q, Same H H' → FoundAt H' q p (Fh.pieceHere (b.drop p)) → Q (.ref q) H'
theorem tagKind_zero {s : UInt8} : tagKind ((s.toNat : Nat) : Int) = 0 ↔ ¬ (s = 43 ∨ s = 45 ∨ s = 46) := by
  have h1 : s = 43 ↔ s.toNat = 43 := ⟨fun e => by rw [e]; rfl, fun e => UInt8.toNat.inj (by rw [e]; rfl)⟩
  have h2 : s = 45 ↔ s.toNat = 45 := ⟨fun e => by rw [e]; rfl, fun e => UInt8.toNat.inj (by rw [e]; rfl)⟩
  have h3 : s = 46 ↔ s.toNat = 46 := ⟨fun e => by rw [e]; rfl, fun e => UInt8.toNat.inj (by rw [e]; rfl)⟩
  rw [h1, h2, h3]
  unfold tagKind
  repeat' split
  all_goals omega
theorem tagKind_of {s : UInt8} (h : s = 43 ∨ s = 45 ∨ s = 46) (n : Nat) : tagKind ((s.toNat : Nat) : Int) = kindOf (Fh.tagOf s n) ∧ numOf (Fh.tagOf s n) = n := by
  rcases h with rfl | rfl | rfl <;> exact ⟨rfl, rfl⟩
theorem is_brace (s : UInt8) : ((s.toNat : Nat) : Int) = 123 ↔ s = 123 := by
  refine ⟨fun e => UInt8.toNat.inj ?_, fun e => by rw [e]; rfl⟩
  have e2 : s.toNat = 123 := by omega
  rw [e2]
  rfl
section
variable {P : Program} {w : World} {K : PySem.W.Frag} {mg : Str → Option Value} {base : Heap}
theorem sc_read_braced : FnScope ["text", "place", "kind"] ["text", "place"] (defScope s_read_braced) := ⟨rfl, rfl, rfl, by decide +kernel, rfl, by decide +kernel, by decide +kernel⟩
theorem ok_read_braced (T : Tx K mg) : OkF P w K mg base 3 "read_braced" ["text", "place"] (spBraced K) := by
  refine okf (d := d_read_braced) 10 10 (N := ["text", "place", "kind"]) T rfl rfl rfl rfl rfl sc_read_braced (fun _ _ _ _ _ _ us hl => match us, hl with | [_, _], _ => rfl) (fun vs H Q E h => ?_) (fun f cdv A outer s H vs Q E hr h => ?_)
  · obtain ⟨a, b, p, rfl, hS, hp, h⟩ := h
    rfl
  · obtain ⟨a, b, p, rfl, hS, hp, h⟩ := h
    have hu := hu_of hr
    refine ⟨_, (pss_cons (ps_if (pt_cmpR op_eq (pv 1) (pe_callB call_len_seq (by rfl) T.b_len PySem.boot_len (pa_cons (pv 0) pa_nil)) (nomark _)) (pss_one (ps_ret (pe_tup (pa_cons pe_non (pa_cons (pv 1) pa_nil))))) pss_nil)
      (pss_cons (ps_if (pt_cmpR op_eq (pe_ix ix_list (pv 0) (pv 1) (fun _ _ => rfl)) (pe_gi T.i_BRACE) (nomark _)) (pss_one (ps_ret (pe_tup (pa_cons (pe_tup (pa_cons (pe_gi T.i_CHARACTER) (pa_cons (pe_gi T.i_BRACE) pa_nil))) (pa_cons (pe_op op_add (pv 1) pe_int) pa_nil))))) pss_nil)
      (pss_cons (ps_set (i := 2) sc_read_braced.nd rfl (Or.inl rfl) (pe_callF (ok_tag_kind T) (hr.mono (by decide)) (pa_cons (pe_ix ix_list (pv 0) (pv 1) (fun _ _ => rfl)) pa_nil)))
      (pss_cons (ps_if (pt_cmpR op_eq (pv 2) (pe_gi T.i_CHARACTER) (nomark _)) (pss_one (ps_ret (pe_tup (pa_cons pe_non (pa_cons (pv 1) pa_nil))))) pss_nil)
      (pss_one (ps_ret (pe_callF (ok_read_tag_number T) (hr.mono (by decide)) (pa_cons (pv 0) (pa_cons (pe_op op_add (pv 1) pe_int) (pa_cons (pv 2) pa_nil)))))))))), ?_⟩
    have ed := drop_at hp
    obtain ⟨j, hj⟩ : ∃ j, j = p + 1 := ⟨_, rfl⟩
    rw [← hj] at ed ⊢
    have hpl := (List.getElem?_eq_some_iff.mp hp).1
    simp [tSeq, tIfS, tTest, tOp, rEq, rNe, rI0, rI, tVar, tC, tRet, tNext, L2.start, scal_ii, scal_nn, scal_in, scal_ni, scal_bb, line1, line2, line3, line7, tAnd, tOr, tNot, CDiv, CMul, tAsg, gName, tAndV, tOrV, tNotV, tCall, tCons, tNil, tCB, rU, tUn, tIf, tB, cx_K, cx_noxK, rIxL, rIxT]
    refine ⟨_, .inl hS, ?_⟩
    rw [bv_len]
    by_cases hjl : j = b.length
    · rw [if_pos (by omega)]
      rw [List.drop_eq_nil_of_le (show b.length ≤ j by omega)] at ed
      simp [tSeq, tIfS, tTest, tOp, rEq, rNe, rI0, rI, tVar, tC, tRet, tNext, L2.start, scal_ii, scal_nn, scal_in, scal_ni, scal_bb, line1, line2, line3, line7, tAnd, tOr, tNot, CDiv, CMul, tAsg, gName, tAndV, tOrV, tNotV, tCall, tCons, tNil, tCB, rU, tUn, tIf, tB, cx_K, cx_noxK, rIxL, rIxT, tTup]
      intro q hq
      refine h _ _ (same_upd hq) ?_
      rw [ed, piece_end, hj]
      exact found_err hq
    rw [if_neg (by omega)]
    obtain ⟨c, hc⟩ := at_lt (show j < b.length by omega)
    have ec := drop_at hc
    rw [ec] at ed
    refine ⟨_, hS, _, bv_at hc, rfl, ?_⟩
    by_cases h1 : c = 123
    · rw [if_pos (by rw [h1]; rfl)]
      simp [tSeq, tIfS, tTest, tOp, rEq, rNe, rI0, rI, tVar, tC, tRet, tNext, L2.start, scal_ii, scal_nn, scal_in, scal_ni, scal_bb, line1, line2, line3, line7, tAnd, tOr, tNot, CDiv, CMul, tAsg, gName, tAndV, tOrV, tNotV, tCall, tCons, tNil, tCB, rU, tUn, tIf, tB, cx_K, cx_noxK, rIxL, rIxT, tTup]
      intro t ht q hq
      refine h _ _ ((same_upd ht).trans (same_upd hq)) ?_
      rw [ed, h1, piece_brace]
      refine ⟨t, ?_, ?_⟩
      · rw [upd_same, hj]
        rfl
      · rw [upd_ne (ne_of_none upd_same hq), upd_same]
        rfl
    rw [if_neg (fun z => h1 ((is_brace c).mp (by injection z)))]
    refine ⟨_, hS, _, bv_at hc, ?_⟩
    simp [tSeq, tIfS, tTest, tOp, rEq, rNe, rI0, rI, tVar, tC, tRet, tNext, L2.start, scal_ii, scal_nn, scal_in, scal_ni, scal_bb, line1, line2, line3, line7, tAnd, tOr, tNot, CDiv, CMul, tAsg, gName, tAndV, tOrV, tNotV, tCall, tCons, tNil, tCB, rU, tUn, tIf, tB, cx_K, cx_noxK, rIxL, rIxT, spI1]
    by_cases h2 : c = 43 ∨ c = 45 ∨ c = 46
    · rw [if_neg (fun z => tagKind_zero.mp z h2)]
      refine ⟨a, b, j + 1, _, rfl, hS, by omega, fun H' q s1 g => h H' q s1 ?_⟩
      rw [ed, piece_tag _ h2]
      cases e : Fh.digitsHere 0 0 (b.drop (j + 1)) with
      | ok x =>
        rw [e] at g
        obtain ⟨t, g1, g2⟩ := g
        obtain ⟨k1, k2⟩ := tagKind_of h2 x.1
        refine ⟨t, ?_, ?_⟩
        · rw [g1, hj]
          show _ = some (HO.tup [_, V.int ((p + (x.2 + 3) : Nat) : Int)])
          rw [show p + 1 + 1 + x.2 + 1 = p + (x.2 + 3) by omega]
        · rw [g2, k1]
          show _ = some (HO.tup [_, V.int ((numOf (Fh.tagOf c x.1) : Nat) : Int)])
          rw [k2]
      | error k =>
        rw [e] at g
        show _ = some (HO.tup [_, V.int ((p + (k + 2) : Nat) : Int)])
        rw [g, hj, show p + 1 + 1 + k = p + (k + 2) by omega]
    · rw [if_pos (tagKind_zero.mpr h2)]
      simp [tSeq, tIfS, tTest, tOp, rEq, rNe, rI0, rI, tVar, tC, tRet, tNext, L2.start, scal_ii, scal_nn, scal_in, scal_ni, scal_bb, line1, line2, line3, line7, tAnd, tOr, tNot, CDiv, CMul, tAsg, gName, tAndV, tOrV, tNotV, tCall, tCons, tNil, tCB, rU, tUn, tIf, tB, cx_K, cx_noxK, rIxL, rIxT, tTup]
      intro q hq
      refine h _ _ (same_upd hq) ?_
      rw [ed, piece_nosign _ h1 h2, hj]
      exact found_err hq
theorem sc_read_piece : FnScope ["text", "place"] ["text", "place"] (defScope s_read_piece) := ⟨rfl, rfl, rfl, by decide +kernel, rfl, by decide +kernel, by decide +kernel⟩
theorem ok_read_piece (T : Tx K mg) : OkF P w K mg base 4 "read_piece" ["text", "place"] (spPiece K) := by
  refine okf (d := d_read_piece) 9 9 (N := ["text", "place"]) T rfl rfl rfl rfl rfl sc_read_piece (fun _ _ _ _ _ _ us hl => match us, hl with | [_, _], _ => rfl) (fun vs H Q E h => ?_) (fun f cdv A outer s H vs Q E hr h => ?_)
  · obtain ⟨a, b, p, rfl, hS, hp, hl, h⟩ := h
    rfl
  · obtain ⟨a, b, p, rfl, hS, hp, hl, h⟩ := h
    have hu := hu_of hr
    refine ⟨_, (pss_cons (ps_if (pt_cmpR op_eq (pe_ix ix_list (pv 0) (pv 1) (fun _ _ => rfl)) (pe_gi T.i_BRACE) (nomark _)) (pss_one (ps_ret (pe_callF (ok_read_braced T) (hr.mono (by decide)) (pa_cons (pv 0) (pa_cons (pe_op op_add (pv 1) pe_int) pa_nil))))) pss_nil)
      (pss_one (ps_ret (pe_callF (ok_read_character T) (hr.mono (by decide)) (pa_cons (pv 0) (pa_cons (pv 1) pa_nil)))))), ?_⟩
    obtain ⟨c, hc⟩ := at_lt hp
    have ed := drop_at hc
    simp [tSeq, tIfS, tTest, tOp, rEq, rNe, rI0, rI, tVar, tC, tRet, tNext, L2.start, scal_ii, scal_nn, scal_in, scal_ni, scal_bb, line1, line2, line3, line7, tAnd, tOr, tNot, CDiv, CMul, tAsg, gName, tAndV, tOrV, tNotV, tCall, tCons, tNil, tCB, rU, tUn, tIf, tB, cx_K, cx_noxK, rIxL, rIxT]
    refine ⟨_, hS, _, bv_at hc, rfl, ?_⟩
    by_cases h1 : c = 123
    · rw [if_pos (by rw [h1]; rfl)]
      subst h1
      exact ⟨a, b, p, rfl, hS, hc, h⟩
    · rw [if_neg (fun z => h1 ((is_brace c).mp (by injection z)))]
      refine ⟨a, b, p, rfl, hS, hp, hl, fun H' q s1 g => h H' q s1 ?_⟩
      rw [ed, piece_char _ h1, ← ed]
      exact g
end
end Fj
set_option Elab.async false
set_option linter.all false
set_option maxRecDepth 100000
set_option maxHeartbeats 4000000
namespace Fj
open PySem PySem.Spec PyProof.Rows L2
open Fh (Bytes Piece)
def rdF (a l1 l2 : Addr) (fl : V) : List (Str × V) := [("text", .ref a), ("pieces", .ref l1), ("starts", .ref l2), ("fault", fl)]
theorem rdF_mk (a l1 l2 : Addr) (fl : V) : putF "fault" fl (putF "starts" (.ref l2) (putF "pieces" (.ref l1) (putF "text" (.ref a) []))) = rdF a l1 l2 fl := by kernel_rfl
theorem rdF_put (a l1 l2 : Addr) (fl z : V) : putF "fault" z (rdF a l1 l2 fl) = rdF a l1 l2 z := by kernel_rfl
theorem rdF_text (a l1 l2 : Addr) (fl : V) : (rdF a l1 l2 fl).lookup ("text" : Str) = some (.ref a) := by kernel_rfl
theorem rdF_pieces (a l1 l2 : Addr) (fl : V) : (rdF a l1 l2 fl).lookup ("pieces" : Str) = some (.ref l1) := by kernel_rfl
theorem rdF_starts (a l1 l2 : Addr) (fl : V) : (rdF a l1 l2 fl).lookup ("starts" : Str) = some (.ref l2) := by kernel_rfl
theorem rdF_fault (a l1 l2 : Addr) (fl : V) : (rdF a l1 l2 fl).lookup ("fault" : Str) = some fl := by kernel_rfl
/-- pieces as the program has them -/
def PcAt (H : Hp) (v : V) (x : Piece) : Prop := ∃ t, v = .ref t ∧ H t = some (.tup [.int (kindOf x), .int (numOf x : Nat)])
inductive All2 {α β : Type} (R : α → β → Prop) : List α → List β → Prop
  | nil : All2 R [] []
  | cons {a : α} {b : β} {as : List α} {bs : List β} : R a b → All2 R as bs → All2 R (a :: as) (b :: bs)
theorem All2.mono {α β : Type} {R S : α → β → Prop} (h : ∀ a b, R a b → S a b) : ∀ {as : List α} {bs : List β}, All2 R as bs → All2 S as bs
  | _, _, .nil => .nil
  | _, _, .cons r t => .cons (h _ _ r) (t.mono h)
theorem All2.len {α β : Type} {R : α → β → Prop} : ∀ {as : List α} {bs : List β}, All2 R as bs → as.length = bs.length
  | _, _, .nil => rfl
  | _, _, .cons r t => congrArg Nat.succ t.len
theorem All2.snoc {α β : Type} {R : α → β → Prop} {a : α} {b : β} (r : R a b) : ∀ {as : List α} {bs : List β}, All2 R as bs → All2 R (as ++ [a]) (bs ++ [b])
  | _, _, .nil => .cons r .nil
  | _, _, .cons r' t => .cons r' (t.snoc r)
theorem All2.at {α β : Type} {R : α → β → Prop} : ∀ {as : List α} {bs : List β}, All2 R as bs → ∀ {i : Nat} {a : α}, as[i]? = some a → ∃ b, bs[i]? = some b ∧ R a b
  | _, _, .nil, i, a, h => by simp at h
  | _, _, .cons r t, 0, a, h => by
    obtain rfl := Option.some.inj h
    exact ⟨_, rfl, r⟩
  | _, _, .cons r t, i + 1, a, h => t.at (i := i) h
theorem PcAt.same {H H' : Hp} (s : Same H H') {v : V} {x : Piece} (h : PcAt H v x) : PcAt H' v x := by
  obtain ⟨t, e, h⟩ := h
  exact ⟨t, e, s _ _ h⟩
/-- where pieces begin -/
def startsOf : Nat → Fh.Row → List V
  | _, [] => []
  | p, x :: r => .int (p : Nat) :: startsOf (p + x.text.length) r
theorem starts_len : ∀ (r : Fh.Row) (p : Nat), (startsOf p r).length = r.length
  | [], _ => rfl
  | x :: r, p => congrArg Nat.succ (starts_len r _)
theorem piece_len (x : Piece) : 1 ≤ x.text.length := by
  cases x with
  | char c =>
    show 1 ≤ (if c = 123 then [123, 123] else Fh.utf8 c : Bytes).length
    split
    · decide
    · unfold Fh.utf8
      repeat' split
      all_goals (simp)
  | _ => simp [Piece.text]
theorem row_len_ge : ∀ r : Fh.Row, r.length ≤ (Fh.rowText r).length
  | [] => Nat.zero_le _
  | x :: r => by
    have e : Fh.rowText (x :: r) = x.text ++ Fh.rowText r := rfl
    have z := row_len_ge r
    have z2 := piece_len x
    rw [e, List.length_append, List.length_cons]
    omega
theorem starts_snoc (x : Piece) : ∀ (r : Fh.Row) (p : Nat), startsOf p (r ++ [x]) = startsOf p r ++ [.int ((p + (Fh.rowText r).length : Nat) : Int)]
  | [], p => rfl
  | y :: r, p => by
    show _ :: startsOf _ (r ++ [x]) = _ :: (startsOf _ r ++ _)
    rw [starts_snoc x r]
    have e : Fh.rowText (y :: r) = y.text ++ Fh.rowText r := rfl
    rw [e, List.length_append, Nat.add_assoc]
theorem putF_few {f : Str} {v : V} {n : Nat} : ∀ {fs : List (Str × V)}, fs.length < n → (putF f v fs).length < n + 1
  | [], h => by show 1 < n + 1; omega
  | (g, y) :: r, h => by
    show (if g = f then (g, v) :: r else (g, y) :: putF f v r).length < n + 1
    split
    · exact Nat.lt_succ_of_lt h
    · cases n with
      | zero => cases h
      | succ n => exact Nat.succ_lt_succ (putF_few (Nat.lt_of_succ_lt_succ h))
/-- a Reading at x of the bytes b, which lie at a -/
structure ReadAt (K : PySem.W.Frag) (H : Hp) (x a : Addr) (b : Bytes) : Prop where
  ex : ∃ (dx l1 l2 : Addr) (ts ss : List V) (fl : V), H x = some (.ins (He.ga K "Reading") dx (rdF a l1 l2 fl)) ∧ H l1 = some (.lst ts) ∧ H l2 = some (.lst ss) ∧
    match Fh.rowRead b with
    | .ok r => fl = .non ∧ All2 (PcAt H) ts r ∧ ss = startsOf 0 r
    | .error p => fl = .int (p : Nat)
theorem ReadAt.same {K : PySem.W.Frag} {H H' : Hp} (s : Same H H') {x a : Addr} {b : Bytes} (h : ReadAt K H x a b) : ReadAt K H' x a b := by
  obtain ⟨dx, l1, l2, ts, ss, fl, h1, h2, h3, h4⟩ := h.ex
  refine ⟨dx, l1, l2, ts, ss, fl, s _ _ h1, s _ _ h2, s _ _ h3, ?_⟩
  cases e : Fh.rowRead b with
  | ok r =>
    rw [e] at h4
    exact ⟨h4.1, h4.2.1.mono fun _ _ q => q.same s, h4.2.2⟩
  | error p =>
    rw [e] at h4
    exact h4
section
variable {P : Program} {w : World} {K : PySem.W.Frag} {mg : Str → Option Value} {base : Heap}
def spRInit (C : Addr) : Sp := fun vs H Q _ => ∃ (x dx a : Addr), vs = [.ref x, .ref a] ∧ H x = some (.ins C dx []) ∧ ∀ (l1 l2 : Addr) (H' : Hp), H l1 = none → H l2 = none → l1 ≠ l2 →
  H' x = some (.ins C dx (rdF a l1 l2 .non)) → H' l1 = some (.lst []) → H' l2 = some (.lst []) → (∀ b o, H b = some o → b ≠ x → H' b = some o) → Q .non H'
theorem sc_Reading_init : FnScope ["self", "text"] ["self", "text"] (defScope s_Reading_init) := ⟨rfl, rfl, rfl, by decide +kernel, rfl, by decide +kernel, by decide +kernel⟩
noncomputable def fd_Reading_init (T : Tx K mg) : FuncData := Classical.choose (T.says.def_ 82 (d := d_Reading_init) rfl)
theorem fn_Reading_init (T : Tx K mg) : FunD K "__init__" "Reading.__init__" (defArgs s_Reading_init) (defBody s_Reading_init) (defScope s_Reading_init) [] [] (He.ma K (He.ga K "Reading") "__init__") (fd_Reading_init T) := Classical.choose_spec (T.says.def_ 82 (d := d_Reading_init) rfl)
theorem b_Reading_init (T : Tx K mg) : Binds K (fd_Reading_init T) ["self", "text"] [] := FunD.bindsN (fn_Reading_init T) (fun _ _ _ _ _ _ us hl => match us, hl with | [_, _], _ => rfl)
theorem ok_Reading_init (T : Tx K mg) : FnOk P w K mg base CX0 1 (He.ma K (He.ga K "Reading") "__init__") (fd_Reading_init T) ["self", "text"] (spRInit (He.ga K "Reading")) := by
  refine FunD.ok (fn_Reading_init T) sc_Reading_init (fun vs H Q E h => ?_) (fun cdv A outer s H vs Q E hr h => ok_nox ?_)
  · obtain ⟨x, dx, a, rfl, hx, h⟩ := h
    rfl
  · obtain ⟨x, dx, a, rfl, hx, h⟩ := h
    have hu := hu_of hr
    refine ⟨_, (pss_cons (ps_fld (pv 0) (pv 1) rfl)
      (pss_cons (ps_fld (pv 0) (pe_lst pa_nil) rfl)
      (pss_cons (ps_fld (pv 0) (pe_lst pa_nil) rfl)
      (pss_one (ps_fld (pv 0) pe_non rfl))))), ?_⟩
    simp [tSeq, tIfS, tTest, tOp, rEq, rNe, rI0, rI, tVar, tC, tRet, tNext, L2.start, scal_ii, scal_nn, scal_in, scal_ni, scal_bb, line1, line2, line3, line7, tAnd, tOr, tNot, CDiv, CMul, tAsg, gName, tAndV, tOrV, tNotV, tCall, tCons, tNil, tCB, rU, tUn, tIf, tB, cx_K, cx_noxK, rIxL, rIxT, sFld, tLst]
    refine ⟨_, _, _, hx, T.c_Reading, T.n_Reading_text, by decide, fun l1 hl1 => ?_⟩
    have n1 : x ≠ l1 := ne_of_none upd_same hl1
    refine ⟨_, _, _, (by rw [upd_ne n1, upd_same]), T.c_Reading, T.n_Reading_pieces, (by show 1 < 1000; decide), fun l2 hl2 => ?_⟩
    have n2 : x ≠ l2 := ne_of_none upd_same hl2
    have n12 : l1 ≠ l2 := ne_of_none (by rw [upd_ne n1.symm]; exact upd_same) hl2
    refine ⟨_, _, _, (by rw [upd_ne n2, upd_same]), T.c_Reading, T.n_Reading_starts, putF_few (putF_few (by decide)), ?_⟩
    refine ⟨_, _, _, upd_same, T.c_Reading, T.n_Reading_fault, putF_few (putF_few (putF_few (by decide))), ?_⟩
    have f1 : H l1 = none := by rw [upd_ne n1.symm] at hl1; exact hl1
    have f2 : H l2 = none := by rw [upd_ne n2.symm, upd_ne n12.symm, upd_ne n2.symm] at hl2; exact hl2
    refine h l1 l2 _ f1 f2 n12 ?_ ?_ ?_ ?_
    · rw [upd_same, rdF_mk]
    · rw [upd_ne n1.symm, upd_ne n1.symm, upd_ne n12, upd_ne n1.symm, upd_same]
    · rw [upd_ne n2.symm, upd_ne n2.symm, upd_same]
    · intro b o e hb
      rw [upd_ne hb, upd_ne hb, upd_ne (ne_of_none e f2), upd_ne hb, upd_ne (ne_of_none e f1), upd_ne hb]
      exact e
/-- what a call of read_text leaves -/
def spRead (K : PySem.W.Frag) : Sp := fun vs H Q _ => ∃ (a : Addr) (b : Bytes), vs = [.ref a] ∧ SqL K H a (bv b) ∧ b.length ≤ 1000000 ∧ ∀ (H' : Hp) (x : Addr), Same H H' → ReadAt K H' x a b → Q (.ref x) H'
/-- between two turns -/
structure RdInv (K : PySem.W.Frag) (H : Hp) (a : Addr) (b : Bytes) (x dx l1 l2 : Addr) (m : Nat) (σ : L2.St) (H' : Hp) : Prop where
  ex : ∃ (p : Nat) (l : Fh.Row) (ts : List V) (t : Option V), m = b.length - p ∧ σ = [some (.ref a), some (.ref x), some (.int (p : Nat)), t] ∧ ReadSo b p l ∧ Same H H' ∧
    H' x = some (.ins (He.ga K "Reading") dx (rdF a l1 l2 .non)) ∧ H' l1 = some (.lst ts) ∧ H' l2 = some (.lst (startsOf 0 l.reverse)) ∧ All2 (PcAt H') ts l.reverse
theorem sc_read_text : FnScope ["text", "reading", "place", "found"] ["text"] (defScope s_read_text) := ⟨rfl, rfl, rfl, by decide +kernel, rfl, by decide +kernel, by decide +kernel⟩
theorem ok_read_text (T : Tx K mg) : OkF P w K mg base 5 "read_text" ["text"] (spRead K) := by
  refine okf (d := d_read_text) 8 8 (N := ["text", "reading", "place", "found"]) T rfl rfl rfl rfl rfl sc_read_text (fun _ _ _ _ _ _ us hl => match us, hl with | [_], _ => rfl) (fun vs H Q E h => ?_) (fun f cdv A outer s H vs Q E hr h => ?_)
  · obtain ⟨a, b, rfl, hS, hl, h⟩ := h
    rfl
  · obtain ⟨a, b, rfl, hS, hl, h⟩ := h
    have hu := hu_of hr
    refine ⟨_, (pss_cons (ps_set (i := 1) sc_read_text.nd rfl (Or.inl rfl) (pe_make T.k_Reading (ok_Reading_init T) (hr.mono (by decide)) rfl T.g_Reading (b_Reading_init T) .nil pass0 (pa_cons (pv 0) pa_nil)))
      (pss_cons (ps_set (i := 2) sc_read_text.nd rfl (Or.inl rfl) pe_int)
      (pss_cons (ps_while PassesOwn.never (pt_cmpR op_lt (pv 2) (pe_callB call_len_seq (by rfl) T.b_len PySem.boot_len (pa_cons (pv 0) pa_nil)) (nomark _)) (pss_cons (ps_set (i := 3) sc_read_text.nd rfl (Or.inl rfl) (pe_callF (ok_read_piece T) (hr.mono (by decide)) (pa_cons (pv 0) (pa_cons (pv 2) pa_nil))))
      (pss_cons (ps_if (pt_cmpR op_isN (pe_ix ix_tup (pv 3) pe_int (fun _ _ => rfl)) pe_non (nomark _)) (pss_cons (ps_fld (pv 1) (pe_ix ix_tup (pv 3) pe_int (fun _ _ => rfl)) rfl)
      (pss_one (ps_ret (pv 1)))) pss_nil)
      (pss_cons (ps_expr (pe_bm PySem.F.plainAttrs_list PySem.F.slot_list_append PySem.F.type_list_append mt_append (pe_fld (pv 1) rfl) (pa_cons (pe_ix ix_tup (pv 3) pe_int (fun _ _ => rfl)) pa_nil)))
      (pss_cons (ps_expr (pe_bm PySem.F.plainAttrs_list PySem.F.slot_list_append PySem.F.type_list_append mt_append (pe_fld (pv 1) rfl) (pa_cons (pv 2) pa_nil)))
      (pss_one (ps_set (i := 2) sc_read_text.nd rfl (Or.inl rfl) (pe_ix ix_tup (pv 3) pe_int (fun _ _ => rfl)))))))))
      (pss_one (ps_ret (pv 1)))))), ?_⟩
    simp [tSeq, tIfS, tTest, tOp, rEq, rNe, rI0, rI, tVar, tC, tRet, tNext, L2.start, scal_ii, scal_nn, scal_in, scal_ni, scal_bb, line1, line2, line3, line7, tAnd, tOr, tNot, CDiv, CMul, tAsg, gName, tAndV, tOrV, tNotV, tCall, tCons, tNil, tCB, rU, tUn, tIf, tB, cx_K, cx_noxK, rIxL, rIxT, tMake]
    intro x dx nx ndx nex
    refine ⟨x, dx, a, rfl, upd_same, fun l1 l2 H1 f1 f2 n12 e1 e2 e3 kp => ⟨rfl, ?_⟩⟩
    have s0 : Same H (upd (upd H dx (.own x)) x (.ins (He.ga K "Reading") dx [])) := fun b o e => by
      rw [upd_ne (ne_of_none e nx), upd_ne (ne_of_none e ndx)]
      exact e
    have s1 : Same H H1 := Same.made nx ndx kp
    have g1 : H l1 = none := s0.free f1
    have g2 : H l2 = none := s0.free f2
    refine ⟨RdInv K H a b x dx l1 l2, ⟨_, ⟨0, [], [], none, rfl, rfl, read_start b, s1, e1, e2, e3, .nil⟩⟩, ?_⟩
    rintro m σ H' ⟨p, l, ts, t, rfl, rfl, rs, s2, hx, h1, h2, al⟩
    simp [tSeq, tIfS, tTest, tOp, rEq, rNe, rI0, rI, tVar, tC, tRet, tNext, L2.start, scal_ii, scal_nn, scal_in, scal_ni, scal_bb, line1, line2, line3, line7, tAnd, tOr, tNot, CDiv, CMul, tAsg, gName, tAndV, tOrV, tNotV, tCall, tCons, tNil, tCB, rU, tUn, tIf, tB, cx_K, cx_noxK, rIxL, rIxT]
    refine ⟨_, .inl (s2.seq hS), ?_⟩
    rw [bv_len]
    by_cases hp : p < b.length
    · rw [if_pos hp]
      refine ⟨fun σ' H' => ∃ m', m' < b.length - p ∧ RdInv K H a b x dx l1 l2 m' σ' H', fun _ _ z => z, a, b, p, rfl, s2.seq hS, hp, hl, fun H3 q s3 g => ?_⟩
      have hx3 := s3 _ _ hx
      have h13 := s3 _ _ h1
      have h23 := s3 _ _ h2
      cases e : Fh.pieceHere (b.drop p) with
      | error k =>
        rw [e] at g
        simp [tSeq, tIfS, tTest, tOp, rEq, rNe, rI0, rI, tVar, tC, tRet, tNext, L2.start, scal_ii, scal_nn, scal_in, scal_ni, scal_bb, line1, line2, line3, line7, tAnd, tOr, tNot, CDiv, CMul, tAsg, gName, tAndV, tOrV, tNotV, tCall, tCons, tNil, tCB, rU, tUn, tIf, tB, cx_K, cx_noxK, rIxL, rIxT, sFld]
        refine ⟨_, SqT.of g, _, atI_nat (j := 0) rfl, ?_⟩
        rw [if_pos rfl]
        refine ⟨_, SqT.of g, _, atI_nat (j := 1) rfl, _, _, _, hx3, T.c_Reading, T.n_Reading_fault, (by show 4 < 1000; decide), ?_⟩
        rw [rdF_put]
        refine h _ _ (fun c o z => ?_) ⟨dx, l1, l2, ts, startsOf 0 l.reverse, _, upd_same, ?_, ?_, ?_⟩
        · rw [upd_ne (ne_of_none z nx)]
          exact s3 _ _ (s2 _ _ z)
        · rw [upd_ne (ne_of h13 hx3 (by intro z; cases z))]
          exact h13
        · rw [upd_ne (ne_of h23 hx3 (by intro z; cases z))]
          exact h23
        · rw [read_bad rs hp e]
      | ok y =>
        obtain ⟨pc, n⟩ := y
        rw [e] at g
        obtain ⟨t, gq, gt⟩ := g
        obtain ⟨rs2, hpn, hn⟩ := read_more rs hp e
        simp [tSeq, tIfS, tTest, tOp, rEq, rNe, rI0, rI, tVar, tC, tRet, tNext, L2.start, scal_ii, scal_nn, scal_in, scal_ni, scal_bb, line1, line2, line3, line7, tAnd, tOr, tNot, CDiv, CMul, tAsg, gName, tAndV, tOrV, tNotV, tCall, tCons, tNil, tCB, rU, tUn, tIf, tB, cx_K, cx_noxK, rIxL, rIxT, tDrop, tBM, tFld, rAppend, tyV]
        refine ⟨_, SqT.of gq, _, atI_nat (j := 0) rfl, ?_⟩
        rw [if_neg (by intro z; cases z)]
        have lp : l.length ≤ p := by
          have z1 := congrArg List.length rs.txt
          have z2 := row_len_ge l.reverse
          rw [List.length_take, Nat.min_eq_left rs.le] at z1
          rw [List.length_reverse] at z2
          omega
        have tl : ts.length = l.length := by rw [al.len, List.length_reverse]
        have big : ts.length < sizeLine := Nat.lt_of_le_of_lt (show ts.length ≤ 1000000 by omega) (by decide)
        have nxl1 : x ≠ l1 := ne_of hx3 h13 (by intro z; cases z)
        have nxl2 : x ≠ l2 := ne_of hx3 h23 (by intro z; cases z)
        have hx4 : upd H3 l1 (.lst (ts ++ [.ref t])) x = some (.ins (He.ga K "Reading") dx (rdF a l1 l2 .non)) := by rw [upd_ne nxl1]; exact hx3
        have h24 : upd H3 l1 (.lst (ts ++ [.ref t])) l2 = some (.lst (startsOf 0 l.reverse)) := by rw [upd_ne n12.symm]; exact h23
        have sl : (startsOf 0 l.reverse).length < sizeLine := by rw [starts_len, List.length_reverse, ← tl]; exact big
        refine ⟨_, _, _, hx3, T.c_Reading, T.n_Reading_pieces, _, rdF_pieces _ _ _ _, ⟨_, SqL.of h13⟩, _, SqT.of gq, _, atI_nat (j := 0) rfl, l1, rfl, _, h13, big, ?_⟩
        refine ⟨_, _, _, hx4, T.c_Reading, T.n_Reading_starts, _, rdF_starts _ _ _ _, ⟨_, SqL.of h24⟩, l2, rfl, _, h24, sl, ?_⟩
        have keep : ∀ c o, H3 c = some o → (∀ xs, o ≠ .lst xs) → upd (upd H3 l1 (.lst (ts ++ [.ref t]))) l2 (.lst (startsOf 0 l.reverse ++ [.int (p : Nat)])) c = some o := fun c o z hz => by
          rw [upd_ne (ne_of z h23 (by intro y; exact hz _ y)), upd_ne (ne_of z h13 (by intro y; exact hz _ y))]
          exact z
        refine ⟨_, SqT.of (keep _ _ gq (by intro xs z; cases z)), _, atI_nat (j := 1) rfl, b.length - (p + n), by omega, ⟨p + n, pc :: l, ts ++ [.ref t], _, rfl, rfl, rs2, fun c o z => ?_, keep _ _ hx3 (by intro xs z; cases z), ?_, ?_, ?_⟩⟩
        · rw [upd_ne (ne_of_none z g2), upd_ne (ne_of_none z g1)]
          exact s3 _ _ (s2 _ _ z)
        · rw [upd_ne n12, upd_same]
        · rw [upd_same, List.reverse_cons, starts_snoc, rs.txt, List.length_take, Nat.min_eq_left rs.le, Nat.zero_add]
        · rw [List.reverse_cons]
          refine (al.mono fun v y z => ?_).snoc ⟨t, rfl, keep _ _ gt (by intro xs z; cases z)⟩
          obtain ⟨t', e', z⟩ := z
          exact ⟨t', e', keep _ _ (s3 _ _ z) (by intro xs z; cases z)⟩
    · rw [if_neg hp]
      obtain ⟨ra, _⟩ := read_all rs hp
      refine h _ _ s2 ⟨dx, l1, l2, ts, _, .non, hx, h1, h2, ?_⟩
      rw [ra]
      exact ⟨rfl, al, rfl⟩
end
end Fj
set_option linter.all false
namespace Fj
open Fh
/-! ## Straight rows -/
/-- a tag as a pair -/
def tagPair : Piece → Option (Nat × Nat)
  | .char _ => none
  | .open_ n => some (1, n)
  | .close n => some (2, n)
  | .alone n => some (3, n)
def tgs (r : Row) : List (Nat × Nat) := r.filterMap tagPair
theorem tgs_app (a b : Row) : tgs (a ++ b) = tgs a ++ tgs b := List.filterMap_append
theorem mem_opens {r : Row} {n : Nat} : n ∈ opens r ↔ (1, n) ∈ tgs r := by
  unfold opens tgs
  rw [List.mem_filterMap, List.mem_filterMap]
  constructor
  · rintro ⟨p, h1, h2⟩
    cases p <;> simp at h2
    subst h2
    exact ⟨_, h1, rfl⟩
  · rintro ⟨p, h1, h2⟩
    cases p <;> simp [tagPair] at h2
    subst h2
    exact ⟨_, h1, rfl⟩
theorem mem_closes {r : Row} {n : Nat} : n ∈ closes r ↔ (2, n) ∈ tgs r := by
  unfold closes tgs
  rw [List.mem_filterMap, List.mem_filterMap]
  constructor
  · rintro ⟨p, h1, h2⟩
    cases p <;> simp at h2
    subst h2
    exact ⟨_, h1, rfl⟩
  · rintro ⟨p, h1, h2⟩
    cases p <;> simp [tagPair] at h2
    subst h2
    exact ⟨_, h1, rfl⟩
theorem mem_alones {r : Row} {n : Nat} : n ∈ alones r ↔ (3, n) ∈ tgs r := by
  unfold alones tgs
  rw [List.mem_filterMap, List.mem_filterMap]
  constructor
  · rintro ⟨p, h1, h2⟩
    cases p <;> simp at h2
    subst h2
    exact ⟨_, h1, rfl⟩
  · rintro ⟨p, h1, h2⟩
    cases p <;> simp [tagPair] at h2
    subst h2
    exact ⟨_, h1, rfl⟩
theorem nodup_all : ∀ r : Row, (tgs r).Nodup ↔ (opens r).Nodup ∧ (closes r).Nodup ∧ (alones r).Nodup
  | [] => by simp [tgs, opens, closes, alones]
  | p :: r => by
    have ih := nodup_all r
    cases p with
    | char c => exact ih
    | open_ n =>
      have e1 : tgs (.open_ n :: r) = (1, n) :: tgs r := rfl
      have e2 : opens (.open_ n :: r) = n :: opens r := rfl
      have e3 : closes (.open_ n :: r) = closes r := rfl
      have e4 : alones (.open_ n :: r) = alones r := rfl
      rw [e1, e2, e3, e4, List.nodup_cons, List.nodup_cons, ih, mem_opens]
      exact ⟨fun ⟨a, b, c, d⟩ => ⟨⟨a, b⟩, c, d⟩, fun ⟨⟨a, b⟩, c, d⟩ => ⟨a, b, c, d⟩⟩
    | close n =>
      have e1 : tgs (.close n :: r) = (2, n) :: tgs r := rfl
      have e2 : opens (.close n :: r) = opens r := rfl
      have e3 : closes (.close n :: r) = n :: closes r := rfl
      have e4 : alones (.close n :: r) = alones r := rfl
      rw [e1, e2, e3, e4, List.nodup_cons, List.nodup_cons, ih, mem_closes]
      exact ⟨fun ⟨a, b, c, d⟩ => ⟨b, ⟨a, c⟩, d⟩, fun ⟨b, ⟨a, c⟩, d⟩ => ⟨a, b, c, d⟩⟩
    | alone n =>
      have e1 : tgs (.alone n :: r) = (3, n) :: tgs r := rfl
      have e2 : opens (.alone n :: r) = opens r := rfl
      have e3 : closes (.alone n :: r) = closes r := rfl
      have e4 : alones (.alone n :: r) = n :: alones r := rfl
      rw [e1, e2, e3, e4, List.nodup_cons, List.nodup_cons, ih, mem_alones]
      exact ⟨fun ⟨a, b, c, d⟩ => ⟨b, c, a, d⟩, fun ⟨b, c, a, d⟩ => ⟨a, b, c, d⟩⟩
/-- straight, said plainly -/
theorem straight_iff (r : Row) : straight r = true ↔ ∃ h, halves r = some h ∧ (tgs r).Nodup ∧ (∀ n, (3, n) ∈ tgs r → (1, n) ∉ tgs r ∧ (2, n) ∉ tgs r) ∧ ∀ n ∈ h.1, (1, n) ∉ tgs r := by
  unfold straight
  cases e : halves r with
  | none => simp
  | some h =>
    rw [nodup_all]
    simp only [Bool.and_eq_true, decide_eq_true_eq, List.all_eq_true, Bool.not_eq_true', List.contains_eq_mem, decide_eq_false_iff_not, mem_opens, mem_closes, mem_alones]
    constructor
    · rintro ⟨h1, h2, h3, h4, h5⟩
      exact ⟨h, rfl, ⟨h1, h2, h3⟩, h4, h5⟩
    · rintro ⟨h', e', ⟨h1, h2, h3⟩, h4, h5⟩
      obtain rfl := Option.some.inj e'
      exact ⟨h1, h2, h3, h4, h5⟩
theorem halves_char (s l : List Nat) (c : Nat) (r : Row) : halvesFrom s l (.char c :: r) = halvesFrom s l r := by simp [halvesFrom]
theorem halves_alone (s l : List Nat) (c : Nat) (r : Row) : halvesFrom s l (.alone c :: r) = halvesFrom s l r := by simp [halvesFrom]
theorem halves_open (s l : List Nat) (n : Nat) (r : Row) : halvesFrom s l (.open_ n :: r) = halvesFrom (n :: s) l r := by simp [halvesFrom]
theorem halves_close0 (l : List Nat) (n : Nat) (r : Row) : halvesFrom [] l (.close n :: r) = halvesFrom [] (l ++ [n]) r := by simp [halvesFrom]
theorem halves_close (s l : List Nat) (m n : Nat) (r : Row) : halvesFrom (m :: s) l (.close n :: r) = if m = n then halvesFrom s l r else none := by simp [halvesFrom]
theorem halves_lefts : ∀ (r : Row) (s l : List Nat) (h : List Nat × List Nat), halvesFrom s l r = some h → ∀ n ∈ l, n ∈ h.1
  | [], s, l, h, e, n, hn => by
    have e2 : some (l, s.reverse) = some h := by simpa [halvesFrom] using e
    obtain rfl := Option.some.inj e2
    exact hn
  | .char c :: r, s, l, h, e, n, hn => halves_lefts r s l h (by rw [halves_char] at e; exact e) n hn
  | .alone c :: r, s, l, h, e, n, hn => halves_lefts r s l h (by rw [halves_alone] at e; exact e) n hn
  | .open_ c :: r, s, l, h, e, n, hn => halves_lefts r _ l h (by rw [halves_open] at e; exact e) n hn
  | .close c :: r, [], l, h, e, n, hn => halves_lefts r [] _ h (by rw [halves_close0] at e; exact e) n (List.mem_append_left _ hn)
  | .close c :: r, m :: s, l, h, e, n, hn => by
    rw [halves_close] at e
    split at e
    · exact halves_lefts r s l h e n hn
    · cases e
/-- a row gone through so far, nothing wrong: its left halves, the pile (the top last) -/
structure Good (pre : Row) (lefts pile : List Nat) : Prop where
  nd : (tgs pre).Nodup
  al : ∀ n, (3, n) ∈ tgs pre → (1, n) ∉ tgs pre ∧ (2, n) ∉ tgs pre
  hv : ∀ rest, halves (pre ++ rest) = halvesFrom pile.reverse lefts rest
  lo : ∀ n ∈ lefts, (1, n) ∉ tgs pre ∧ (2, n) ∈ tgs pre
  op : ∀ n, (1, n) ∈ tgs pre → n ∈ pile ∨ (2, n) ∈ tgs pre
  cl : ∀ n, (2, n) ∈ tgs pre → n ∈ lefts ∨ (1, n) ∈ tgs pre
  pl : ∀ n ∈ pile, (1, n) ∈ tgs pre
theorem good_nil : Good [] [] [] := ⟨by simp [tgs], by simp [tgs], fun _ => rfl, by simp, by simp [tgs], by simp [tgs], by simp⟩
/-- whether a tag may not stand behind these -/
def wrong (ts : List (Nat × Nat)) (k n : Nat) : Prop := (k, n) ∈ ts ∨ (3, n) ∈ ts ∨ (k = 3 ∧ ((1, n) ∈ ts ∨ (2, n) ∈ ts)) ∨ (k = 1 ∧ (2, n) ∈ ts)
theorem good_char {pre : Row} {l p : List Nat} (g : Good pre l p) (c : Nat) : Good (pre ++ [.char c]) l p := by
  have e : tgs (pre ++ [.char c]) = tgs pre := by rw [tgs_app]; simp [tgs, tagPair]
  refine ⟨by rw [e]; exact g.nd, by rw [e]; exact g.al, fun rest => ?_, by rw [e]; exact g.lo, by rw [e]; exact g.op, by rw [e]; exact g.cl, by rw [e]; exact g.pl⟩
  rw [List.append_assoc, g.hv]
  show halvesFrom _ _ (.char c :: rest) = _
  rw [halves_char]
theorem nodup_snoc {α : Type} {l : List α} {x : α} (h : l.Nodup) (hx : x ∉ l) : (l ++ [x]).Nodup := by
  rw [List.nodup_append]
  refine ⟨h, by simp, fun a ha b hb => ?_⟩
  simp at hb
  subst hb
  intro e
  subst e
  exact hx ha
theorem good_alone {pre : Row} {l p : List Nat} (g : Good pre l p) {n : Nat} (w : ¬ wrong (tgs pre) 3 n) : Good (pre ++ [.alone n]) l p := by
  have e : tgs (pre ++ [.alone n]) = tgs pre ++ [(3, n)] := by rw [tgs_app]; rfl
  unfold wrong at w
  have w1 : (3, n) ∉ tgs pre := fun z => w (.inl z)
  have w3 : (1, n) ∉ tgs pre ∧ (2, n) ∉ tgs pre := ⟨fun z => w (.inr (.inr (.inl ⟨rfl, .inl z⟩))), fun z => w (.inr (.inr (.inl ⟨rfl, .inr z⟩)))⟩
  have m : ∀ k j, k ≠ 3 → ((k, j) ∈ tgs (pre ++ [.alone n]) ↔ (k, j) ∈ tgs pre) := fun k j hk => by
    rw [e, List.mem_append]
    simp [hk]
  refine ⟨by rw [e]; exact nodup_snoc g.nd w1, fun j hj => ?_, fun rest => ?_, fun j hj => ?_, fun j hj => ?_, fun j hj => ?_, fun j hj => ?_⟩
  · rw [m 1 j (by decide), m 2 j (by decide)]
    rw [e, List.mem_append] at hj
    rcases hj with hj | hj
    · exact g.al j hj
    · simp at hj
      subst hj
      exact w3
  · rw [List.append_assoc, g.hv]
    show halvesFrom _ _ (.alone n :: rest) = _
    rw [halves_alone]
  · rw [m 1 j (by decide), m 2 j (by decide)]
    exact g.lo j hj
  · rw [m 2 j (by decide)]
    exact g.op j ((m 1 j (by decide)).mp hj)
  · rw [m 1 j (by decide)]
    exact g.cl j ((m 2 j (by decide)).mp hj)
  · rw [m 1 j (by decide)]
    exact g.pl j hj
theorem good_open {pre : Row} {l p : List Nat} (g : Good pre l p) {n : Nat} (w : ¬ wrong (tgs pre) 1 n) : Good (pre ++ [.open_ n]) l (p ++ [n]) := by
  have e : tgs (pre ++ [.open_ n]) = tgs pre ++ [(1, n)] := by rw [tgs_app]; rfl
  unfold wrong at w
  have w1 : (1, n) ∉ tgs pre := fun z => w (.inl z)
  have w2 : (3, n) ∉ tgs pre := fun z => w (.inr (.inl z))
  have w4 : (2, n) ∉ tgs pre := fun z => w (.inr (.inr (.inr ⟨rfl, z⟩)))
  have m : ∀ k j, k ≠ 1 → ((k, j) ∈ tgs (pre ++ [.open_ n]) ↔ (k, j) ∈ tgs pre) := fun k j hk => by
    rw [e, List.mem_append]
    simp [hk]
  have m1 : ∀ j, (1, j) ∈ tgs (pre ++ [.open_ n]) ↔ (1, j) ∈ tgs pre ∨ j = n := fun j => by
    rw [e, List.mem_append]
    simp
  refine ⟨by rw [e]; exact nodup_snoc g.nd w1, fun j hj => ?_, fun rest => ?_, fun j hj => ?_, fun j hj => ?_, fun j hj => ?_, fun j hj => ?_⟩
  · rw [m1, m 2 j (by decide)]
    have hj' := (m 3 j (by decide)).mp hj
    obtain ⟨a, b⟩ := g.al j hj'
    refine ⟨fun z => z.elim a (fun z => ?_), b⟩
    subst z
    exact w2 hj'
  · rw [List.append_assoc, g.hv]
    show halvesFrom _ _ (.open_ n :: rest) = _
    rw [halves_open, List.reverse_append]
    rfl
  · rw [m1, m 2 j (by decide)]
    obtain ⟨a, b⟩ := g.lo j hj
    refine ⟨fun z => z.elim a (fun z => ?_), b⟩
    subst z
    exact w4 b
  · rw [m 2 j (by decide)]
    rcases (m1 j).mp hj with z | z
    · exact (g.op j z).imp (List.mem_append_left _) id
    · subst z
      exact .inl (List.mem_append_right _ (by simp))
  · rw [m1]
    exact (g.cl j ((m 2 j (by decide)).mp hj)).imp id .inl
  · rw [m1]
    rcases List.mem_append.mp hj with z | z
    · exact .inl (g.pl j z)
    · simp at z
      exact .inr z
theorem good_close0 {pre : Row} {l : List Nat} (g : Good pre l []) {n : Nat} (w : ¬ wrong (tgs pre) 2 n) : Good (pre ++ [.close n]) (l ++ [n]) [] := by
  have e : tgs (pre ++ [.close n]) = tgs pre ++ [(2, n)] := by rw [tgs_app]; rfl
  unfold wrong at w
  have w1 : (2, n) ∉ tgs pre := fun z => w (.inl z)
  have w2 : (3, n) ∉ tgs pre := fun z => w (.inr (.inl z))
  have m : ∀ k j, k ≠ 2 → ((k, j) ∈ tgs (pre ++ [.close n]) ↔ (k, j) ∈ tgs pre) := fun k j hk => by
    rw [e, List.mem_append]
    simp [hk]
  have m2 : ∀ j, (2, j) ∈ tgs (pre ++ [.close n]) ↔ (2, j) ∈ tgs pre ∨ j = n := fun j => by
    rw [e, List.mem_append]
    simp
  refine ⟨by rw [e]; exact nodup_snoc g.nd w1, fun j hj => ?_, fun rest => ?_, fun j hj => ?_, fun j hj => ?_, fun j hj => ?_, fun j hj => ?_⟩
  · rw [m 1 j (by decide), m2]
    have hj' := (m 3 j (by decide)).mp hj
    obtain ⟨a, b⟩ := g.al j hj'
    refine ⟨a, fun z => z.elim b (fun z => ?_)⟩
    subst z
    exact w2 hj'
  · rw [List.append_assoc, g.hv]
    show halvesFrom [] _ (.close n :: rest) = _
    rw [halves_close0]
    rfl
  · rw [m 1 j (by decide), m2]
    rcases List.mem_append.mp hj with z | z
    · obtain ⟨a, b⟩ := g.lo j z
      exact ⟨a, .inl b⟩
    · simp at z
      subst z
      refine ⟨fun z => ?_, .inr rfl⟩
      rcases g.op j z with z | z
      · cases z
      · exact w1 z
  · rw [m2]
    rcases g.op j ((m 1 j (by decide)).mp hj) with z | z
    · cases z
    · exact .inr (.inl z)
  · rw [m 1 j (by decide)]
    rcases (m2 j).mp hj with z | z
    · exact (g.cl j z).imp (List.mem_append_left _) id
    · subst z
      exact .inl (List.mem_append_right _ (by simp))
  · cases hj
theorem good_close {pre : Row} {l p : List Nat} {n : Nat} (g : Good pre l (p ++ [n])) (w : ¬ wrong (tgs pre) 2 n) : Good (pre ++ [.close n]) l p := by
  have e : tgs (pre ++ [.close n]) = tgs pre ++ [(2, n)] := by rw [tgs_app]; rfl
  unfold wrong at w
  have w1 : (2, n) ∉ tgs pre := fun z => w (.inl z)
  have w2 : (3, n) ∉ tgs pre := fun z => w (.inr (.inl z))
  have m : ∀ k j, k ≠ 2 → ((k, j) ∈ tgs (pre ++ [.close n]) ↔ (k, j) ∈ tgs pre) := fun k j hk => by
    rw [e, List.mem_append]
    simp [hk]
  have m2 : ∀ j, (2, j) ∈ tgs (pre ++ [.close n]) ↔ (2, j) ∈ tgs pre ∨ j = n := fun j => by
    rw [e, List.mem_append]
    simp
  refine ⟨by rw [e]; exact nodup_snoc g.nd w1, fun j hj => ?_, fun rest => ?_, fun j hj => ?_, fun j hj => ?_, fun j hj => ?_, fun j hj => ?_⟩
  · rw [m 1 j (by decide), m2]
    have hj' := (m 3 j (by decide)).mp hj
    obtain ⟨a, b⟩ := g.al j hj'
    refine ⟨a, fun z => z.elim b (fun z => ?_)⟩
    subst z
    exact w2 hj'
  · rw [List.append_assoc, g.hv, List.reverse_append]
    show halvesFrom (n :: p.reverse) _ (.close n :: rest) = _
    rw [halves_close, if_pos rfl]
  · rw [m 1 j (by decide), m2]
    obtain ⟨a, b⟩ := g.lo j hj
    exact ⟨a, .inl b⟩
  · rw [m2]
    rcases g.op j ((m 1 j (by decide)).mp hj) with z | z
    · rcases List.mem_append.mp z with z | z
      · exact .inl z
      · simp at z
        exact .inr (.inr z)
    · exact .inr (.inl z)
  · rw [m 1 j (by decide)]
    rcases (m2 j).mp hj with z | z
    · exact (g.cl j z)
    · subst z
      exact .inr (g.pl j (List.mem_append_right _ (by simp)))
  · rw [m 1 j (by decide)]
    exact g.pl j (List.mem_append_left _ hj)
/-- nothing behind makes it straight again -/
theorem bad_tag {pre : Row} {l p : List Nat} (g : Good pre l p) {x : Piece} {k n : Nat} (hx : tagPair x = some (k, n)) (w : wrong (tgs pre) k n) (rest : Row) : straight (pre ++ x :: rest) = false := by
  cases hs : straight (pre ++ x :: rest) with
  | false => rfl
  | true =>
    exfalso
    obtain ⟨h, e, nd, al, lo⟩ := (straight_iff _).mp hs
    have et : tgs (pre ++ x :: rest) = tgs pre ++ (k, n) :: tgs rest := by
      rw [tgs_app]
      congr 1
      show List.filterMap tagPair (x :: rest) = _
      rw [List.filterMap_cons, hx]
      rfl
    rw [et] at nd al lo
    have hin : ∀ q, q ∈ tgs pre → q ∈ tgs pre ++ (k, n) :: tgs rest := fun q z => List.mem_append_left _ z
    have hkn : (k, n) ∈ tgs pre ++ (k, n) :: tgs rest := List.mem_append_right _ (by simp)
    have hne : (k, n) ∉ tgs pre := fun z => by
      have z2 := (List.nodup_append.mp nd).2.2 _ z (k, n) (by simp)
      exact z2 rfl
    have hk : k = 1 ∨ k = 2 ∨ k = 3 := by
      cases x <;> simp [tagPair] at hx
      · exact .inl hx.1.symm
      · exact .inr (.inl hx.1.symm)
      · exact .inr (.inr hx.1.symm)
    unfold wrong at w
    rcases w with w | w | ⟨rfl, w⟩ | ⟨rfl, w⟩
    · exact hne w
    · obtain ⟨a, b⟩ := al n (hin _ w)
      rcases hk with rfl | rfl | rfl
      · exact a hkn
      · exact b hkn
      · exact hne w
    · obtain ⟨a, b⟩ := al n hkn
      rcases w with w | w
      · exact a (hin _ w)
      · exact b (hin _ w)
    · rcases g.cl n w with z | z
      · have z2 := halves_lefts (x :: rest) p.reverse l h (by rw [← g.hv]; exact e) n z
        exact lo n z2 hkn
      · exact hne z
theorem bad_close {pre : Row} {l p : List Nat} {m n : Nat} (g : Good pre l (p ++ [m])) (hm : m ≠ n) (rest : Row) : straight (pre ++ .close n :: rest) = false := by
  cases hs : straight (pre ++ .close n :: rest) with
  | false => rfl
  | true =>
    obtain ⟨h, e, _⟩ := (straight_iff _).mp hs
    rw [g.hv, List.reverse_append] at e
    have e2 : halvesFrom (m :: p.reverse) l (.close n :: rest) = some h := e
    rw [halves_close, if_neg hm] at e2
    cases e2
theorem good_straight {r : Row} {l p : List Nat} (g : Good r l p) : straight r = true ∧ halves r = some (l, p) := by
  have e : halves r = some (l, p) := by
    have z := g.hv []
    rw [List.append_nil] at z
    rw [z]
    simp [halvesFrom]
  exact ⟨(straight_iff r).mpr ⟨_, e, g.nd, g.al, fun n hn => (g.lo n hn).1⟩, e⟩
/-! ## What fits -/
theorem sub_len {α : Type} [DecidableEq α] : ∀ {a b : List α}, a.Nodup → (∀ x ∈ a, x ∈ b) → a.length ≤ b.length
  | [], b, _, _ => Nat.zero_le _
  | x :: a, b, nd, h => by
    obtain ⟨h1, h2⟩ := List.nodup_cons.mp nd
    have hx := h x (by simp)
    have ih := sub_len (b := b.erase x) h2 fun y hy => by
      have hyx : y ≠ x := fun e => h1 (by rw [← e]; exact hy)
      rw [List.mem_erase_of_ne hyx]
      exact h y (List.mem_cons_of_mem _ hy)
    rw [List.length_erase_of_mem hx] at ih
    have := List.length_pos_of_mem hx
    show a.length + 1 ≤ b.length
    omega
theorem sub_back {α : Type} [DecidableEq α] {a b : List α} (nd : a.Nodup) (h : ∀ x ∈ a, x ∈ b) (hl : b.length ≤ a.length) : ∀ x ∈ b, x ∈ a := fun x hx => by
  rcases Classical.em (x ∈ a) with q | q
  · exact q
  · have z := sub_len (a := x :: a) (b := b) (List.nodup_cons.mpr ⟨q, nd⟩) fun y hy => by
      rcases List.mem_cons.mp hy with e | e
      · rw [e]; exact hx
      · exact h y e
    rw [List.length_cons] at z
    omega
theorem tagPair_inj {x y : Piece} {q : Nat × Nat} (hx : tagPair x = some q) (hy : tagPair y = some q) : x = y := by
  cases x <;> cases y <;> simp [tagPair] at hx hy <;> (subst hx; simp at hy) <;> simp [hy]
theorem isTag_pair (x : Piece) : x.isTag = (tagPair x).isSome := by cases x <;> rfl
theorem tgs_tagsOf : ∀ r : Row, (tagsOf r).map tagPair = (tgs r).map some
  | [] => rfl
  | x :: r => by
    have ih := tgs_tagsOf r
    cases x with
    | char c => exact ih
    | open_ n => exact congrArg (List.cons _) ih
    | close n => exact congrArg (List.cons _) ih
    | alone n => exact congrArg (List.cons _) ih
theorem mem_tagsOf {r : Row} {x : Piece} {q : Nat × Nat} (hx : tagPair x = some q) : x ∈ tagsOf r ↔ q ∈ tgs r := by
  constructor
  · intro h
    have z : tagPair x ∈ (tagsOf r).map tagPair := List.mem_map_of_mem h
    rw [tgs_tagsOf, hx] at z
    simpa using z
  · intro h
    have z : some q ∈ (tgs r).map some := List.mem_map_of_mem h
    rw [← tgs_tagsOf, List.mem_map] at z
    obtain ⟨y, h1, h2⟩ := z
    rw [tagPair_inj hx h2]
    exact h1
theorem tagsOf_len (r : Row) : (tagsOf r).length = (tgs r).length := by
  have z := congrArg List.length (tgs_tagsOf r)
  simpa using z
theorem tagsOf_nodup {r : Row} (h : (tgs r).Nodup) : (tagsOf r).Nodup := by
  have z : ((tagsOf r).map tagPair).Nodup := by
    rw [tgs_tagsOf]
    exact List.Pairwise.map some (fun a b hab e => hab (Option.some.inj e)) h
  exact List.Pairwise.of_map tagPair (fun a b hab e => hab (by rw [e])) z
theorem tag_of_mem {r : Row} {x : Piece} (h : x ∈ tagsOf r) : ∃ q, tagPair x = some q := by
  have z := (List.mem_filter.mp h).2
  rw [isTag_pair] at z
  exact Option.isSome_iff_exists.mp z
/-- the same tags, where none stands twice -/
theorem sameTags_iff {s t : Row} (hs : (tgs s).Nodup) (ht : (tgs t).Nodup) : sameTags s t = true ↔ (tgs t).length = (tgs s).length ∧ ∀ q ∈ tgs t, q ∈ tgs s := by
  unfold sameTags
  rw [Bool.and_eq_true, decide_eq_true_eq, tagsOf_len, tagsOf_len, List.all_eq_true]
  have ns := tagsOf_nodup hs
  have nt := tagsOf_nodup ht
  constructor
  · rintro ⟨h1, h2⟩
    refine ⟨h1.symm, fun q hq => ?_⟩
    have sub : ∀ q ∈ tgs s, q ∈ tgs t := fun q hq => by
      have z : some q ∈ (tgs s).map some := List.mem_map_of_mem hq
      rw [← tgs_tagsOf, List.mem_map] at z
      obtain ⟨y, y1, y2⟩ := z
      have c := h2 y y1
      have c := eq_of_beq c
      rw [List.Nodup.count ns, if_pos y1] at c
      exact (mem_tagsOf y2).mp (List.count_pos_iff.mp (by omega))
    exact sub_back hs sub (by omega) q hq
  · rintro ⟨h1, h2⟩
    refine ⟨h1.symm, fun y hy => ?_⟩
    obtain ⟨q, hq⟩ := tag_of_mem hy
    have back := sub_back ht h2 (by omega)
    have c := (mem_tagsOf hq).mpr (back q ((mem_tagsOf hq).mp hy))
    rw [List.Nodup.count ns, List.Nodup.count nt, if_pos hy, if_pos c]
    rfl
theorem fits_iff {s t : Row} {ls ps lt pt : List Nat} (gs : Good s ls ps) (gt : Good t lt pt) : fits s t = true ↔ ((tgs t).length = (tgs s).length ∧ ∀ q ∈ tgs t, q ∈ tgs s) ∧ lt = ls ∧ pt = ps := by
  obtain ⟨a1, a2⟩ := good_straight gs
  obtain ⟨b1, b2⟩ := good_straight gt
  unfold fits
  rw [b1, Bool.true_and, Bool.and_eq_true, sameTags_iff gs.nd gt.nd, a2, b2]
  refine and_congr_right fun _ => ?_
  constructor
  · intro h
    have e := Option.some.inj (eq_of_beq h)
    injection e with e1 e2
    exact ⟨e1.symm, e2.symm⟩
  · rintro ⟨rfl, rfl⟩
    exact beq_self_eq_true _
theorem fits_no {s t : Row} (h : straight t = false) : fits s t = false := by
  unfold fits
  rw [h, Bool.false_and]
end Fj
set_option Elab.async false
set_option linter.all false
set_option maxRecDepth 100000
set_option maxHeartbeats 4000000
/-! ## Two dicts with tuple keys, all of whose values are True, compared -/
namespace Fj
open PySem PySem.W PySem.Calls PyProof.Rows
section
variable {prog : Program} {w : World} {K : Type} [DecidableEq K] {knd : HeapKind prog w K} {A : Around} {E : Value → Shared → Prop} {s : Shared}
def hasKey (xb : List (K × Addr × Value)) (k : K) : Bool := xb.any fun y => decide (y.1 = k)
theorem hasKey_no {xb : List (K × Addr × Value)} {k : K} (h : ∀ (j : Nat) (p : Addr × Value), xb[j]? ≠ some (k, p)) : hasKey xb k = false := by
  unfold hasKey
  rw [List.any_eq_false]
  rintro ⟨k', p⟩ hy z
  obtain ⟨j, hj, e⟩ := List.mem_iff_getElem.mp hy
  have e2 : k' = k := of_decide_eq_true z
  exact h j p (by rw [List.getElem?_eq_getElem hj, e, e2])
theorem hasKey_yes {xb : List (K × Addr × Value)} {k : K} {j : Nat} {p : Addr × Value} (h : xb[j]? = some (k, p)) : hasKey xb k = true := by
  unfold hasKey
  rw [List.any_eq_true]
  exact ⟨(k, p), List.mem_of_getElem? h, decide_eq_true rfl⟩
theorem same_keysT {nm : String} {a b : Addr} {xa xb : List (K × Addr × Value)} {Q : Bool → Shared → Prop} (na : (a == sysModules) = false) (nb : (b == sysModules) = false)
    (da : s.heap.DictOfH knd a xa) (db : s.heap.DictOfH knd b xb) (hu : knd.room A) (va : ∀ x ∈ xa, x.2.2 = .bool true) (vb : ∀ x ∈ xb, x.2.2 = .bool true)
    (h : Q (xa.length == xb.length && xa.all fun x => hasKey xb x.1) s) : wpAny (model prog w) A (Builtin.Dict.samePairs nm a b) Q E s := by
  obtain ⟨o1, e1, p1, g1, _, d1, l1, i1, n1⟩ := da
  obtain ⟨o2, e2, p2, g2, _, d2, l2, i2, n2⟩ := db
  have z1 : e1.size = xa.length := size_of_entries l1
  have z2 : e2.size = xb.length := size_of_entries l2
  unfold Builtin.Dict.samePairs Builtin.Dict.showsAll
  rw [if_neg (by rw [na]; decide), if_neg (by rw [nb]; decide)]
  refine wpAny_bind (wpAny_pure (wpAny_bind (wpAny_pure (wpAny_bind (wpAny_dictEntries g1 d1 ?_)))))
  dsimp only
  refine wpAny_bind (wpAny_dictEntries g2 d2 ?_)
  rw [← z1, ← z2] at h
  by_cases hz : e1.size = e2.size
  · rw [if_neg (by rw [hz]; simp)]
    have h2 : Q (xa.all fun x => hasKey xb x.1) s := by simpa [hz] using h
    refine wpAny_bind (wpAny_dictEpoch g1 d1 (wpAny_bind ?_))
    rw [Std.Legacy.Range.forIn_eq_forIn_range']
    simp only [Std.Legacy.Range.size, Nat.sub_zero, Nat.add_sub_cancel, Nat.div_one]
    refine wpAny_forIn_list _ (fun rest q t => t = s ∧ q = (none, ()) ∧ ∃ i, rest = List.range' i (e1.size - i) ∧ i ≤ e1.size ∧ (xa.all fun x => hasKey xb x.1) = (xa.drop i).all fun x => hasKey xb x.1) _ ?_ ?_ _ _ ⟨rfl, rfl, 0, by simp, Nat.zero_le _, rfl⟩
    · rintro y rest q t ⟨rfl, rfl, i, hr, hi, hall⟩
      have hlt : i < e1.size := by
        rcases Nat.lt_or_ge i e1.size with c | c
        · exact c
        · rw [Nat.sub_eq_zero_of_le c] at hr
          simp at hr
      have hs : e1.size - i = (e1.size - (i + 1)) + 1 := by omega
      rw [hs, List.range'_succ] at hr
      injection hr with hy hrest
      subst hy
      obtain ⟨⟨k, ad, v⟩, hx⟩ : ∃ x, xa[y]? = some x := ⟨xa[y]'(by omega), List.getElem?_eq_getElem (by omega)⟩
      have hv := va _ (List.mem_of_getElem? hx)
      have hkey := i1 _ (List.mem_of_getElem? hx)
      simp only at hv hkey
      subst hv
      have hd : xa.drop y = (k, ad, .bool true) :: xa.drop (y + 1) := by
        obtain ⟨c, e⟩ := List.getElem?_eq_some_iff.mp hx
        rw [← e]
        exact List.drop_eq_getElem_cons c
      rw [hd, List.all_cons] at hall
      refine wpAny_bind (wpAny_dictEntries g1 d1 ?_)
      rw [entry_at l1 y, hx]
      show wpAny _ _ (holding [Value.ref ad, Value.bool true] (dictFind b (Value.ref ad) (knd.hash k) >>= _) >>= _) _ _ _
      refine wpAny_bind (wpAny_holding (wpAny_bind (wpAny_dictFind_heap hu hkey g2 d2 l2 i2 n2 (fun hno => ?_) (fun j p hj => ?_))))
      · rw [hasKey_no hno, Bool.false_and] at hall
        rw [hall] at h2
        refine wpAny_pure ?_
        show wpAny _ _ (if (!false) = true then _ else _) _ _ _
        rw [if_pos (by decide)]
        exact wpAny_pure (wpAny_pure h2)
      · have hvb := vb _ (List.mem_of_getElem? hj)
        obtain ⟨ad2, v2⟩ := p
        simp only at hvb
        subst hvb
        refine wpAny_bind (wpAny_dictEntries g2 d2 ?_)
        rw [entry_at l2 j, hj]
        refine wpAny_holding ((SeqAt.EqAt.same (Value.bool true)) _ _ _ _ ?_)
        show wpAny _ _ (if (!true) = true then _ else _) _ _ _
        rw [if_neg (by decide)]
        refine wpAny_bind (wpAny_dictEpoch g1 d1 ?_)
        rw [if_neg (by simp)]
        rw [hasKey_yes hj, Bool.true_and] at hall
        exact wpAny_pure ⟨rfl, rfl, y + 1, hrest, hlt, hall⟩
    · rintro q t ⟨rfl, rfl, i, hr, hi, hall⟩
      have hin : i = e1.size := by
        rcases Nat.lt_or_ge i e1.size with c | c
        · have hs : e1.size - i = (e1.size - (i + 1)) + 1 := by omega
          rw [hs, List.range'_succ] at hr
          exact nomatch hr
        · omega
      rw [hin, z1, List.drop_length] at hall
      rw [hall] at h2
      exact wpAny_pure h2
  · rw [if_pos (by simpa using hz)]
    have hf : (e1.size == e2.size) = false := by simpa using hz
    rw [hf, Bool.false_and] at h
    exact wpAny_bind (wpAny_rule (wpAny_pure h))
theorem ne_keysT {a b : Addr} {xa xb : List (K × Addr × Value)} {Q : Value → Shared → Prop} (na : (a == sysModules) = false) (nb : (b == sysModules) = false)
    (da : s.heap.DictOfH knd a xa) (db : s.heap.DictOfH knd b xb) (hu : A.units < cLine) (hr : knd.room A.in1) (va : ∀ x ∈ xa, x.2.2 = .bool true) (vb : ∀ x ∈ xb, x.2.2 = .bool true)
    (h : Q (.bool (!(xa.length == xb.length && xa.all fun x => hasKey xb x.1))) s) : wpAny (model prog w) A (compareOp .NotEq (.ref a) (.ref b)) Q E s := by
  refine wpAny_richCompare_same_room (op := .NotEq) da.typeIs db.typeIs F.slot_dict_ne (wpAny_call_entry F.slot_dict_ne da.typeIs F.entry_dict_ne ?_ (F.args_dict_ne_2 _ _)) hu
  show wpAny _ _ (Builtin.Dict.dictSlotArgs "__ne__" ⟨[.ref a, .ref b], []⟩ >>= _) _ _ _
  unfold Builtin.Dict.dictSlotArgs
  refine wpAny_bind (wpAny_bind (wpAny_notOrdered_dict da.typeIs ?_))
  show wpAny _ _ (pure (Value.ref a, Value.ref b)) _ _ _
  refine wpAny_pure (wpAny_bind (wpAny_isInstance (T := "dict") db.typeIs F.sub_dict_dict ?_))
  simp only [Bool.not_true, Bool.false_eq_true, if_false]
  refine wpAny_bind (wpAny_pure (wpAny_bind (wpAny_pure (wpAny_bind (same_keysT na nb da db hr va vb ?_)))))
  refine wpAny_pure ⟨_, rfl, (fun x => nomatch x), ?_⟩
  simpa using h
end
end Fj
namespace L2
open PySem PySem.Spec PyProof.Rows
section
variable {X : Cx}
/-- a != b, two dicts with tuple keys, their values True -/
def rNeKeys : R2 := fun x y H Q => ∃ (a b : Addr) (ka kb : List (List Key)), x = .ref a ∧ y = .ref b ∧ H a = some (.dT (ka.map fun k => (k, V.bl true))) ∧ H b = some (.dT (kb.map fun k => (k, V.bl true))) ∧
  Q (.bl (!(decide (ka.length = kb.length) && ka.all fun k => kb.any fun j => decide (j = k)))) H
theorem kt_vals {H : Hp} : ∀ {ks : List (List Key)} {xs : List (List Key × Addr × Value)}, KT H (ks.map fun k => (k, V.bl true)) xs → ks = xs.map (·.1) ∧ ∀ x ∈ xs, x.2.2 = .bool true
  | [], _, r => by
    cases r
    exact ⟨rfl, fun x hx => by cases hx⟩
  | k :: ks, _, r => by
    cases r with
    | cons h t =>
      obtain ⟨h1, _, h3⟩ := h
      obtain ⟨i1, i2⟩ := kt_vals t
      refine ⟨by rw [List.map_cons, ← i1, ← h1], fun x hx => ?_⟩
      rcases List.mem_cons.mp hx with e | hx
      · rw [e]
        exact h3
      · exact i2 x hx
theorem has_mem {K : Type} [DecidableEq K] (xs : List (K × Addr × Value)) (k : K) : Fj.hasKey xs k = (xs.map (·.1)).any fun j => decide (j = k) := by
  unfold Fj.hasKey
  rw [List.any_map]
  rfl
theorem op_neKeys (hu : X.A.units + 1 < cLine) : OpR X (compareOp .NotEq) rNeKeys := by
  intro pins s σ H x y v u Q I rx ry h
  obtain ⟨a, b, ka, kb, rfl, rfl, h1, h2, q⟩ := h
  obtain rfl : v = Value.ref a := rx
  obtain rfl : u = Value.ref b := ry
  obtain ⟨_, na, xa, ra, da⟩ := dt_of I.hok h1
  obtain ⟨_, nb, xb, rb, db⟩ := dt_of I.hok h2
  obtain ⟨ea, va⟩ := kt_vals ra
  obtain ⟨eb, vb⟩ := kt_vals rb
  refine Fj.ne_keysT na nb da db (by omega) hu va vb ⟨.bl _, H, I, rfl, ?_⟩
  have e : (xa.length == xb.length && xa.all fun x => Fj.hasKey xb x.1) = (decide (ka.length = kb.length) && ka.all fun k => kb.any fun j => decide (j = k)) := by
    rw [ea, eb, List.length_map, List.length_map, List.all_map]
    congr 1
    refine congrArg (fun f => xa.all f) (funext fun x => ?_)
    rw [has_mem]
    rfl
  rw [e]
  exact q
end
end L2
namespace L2
open PySem PySem.Spec PyProof.Rows
section
variable {X : Cx}
theorem dp_ints {K : PySem.W.Frag} {H : Hp} : ∀ ns : List Int, DpAll K H (ns.map V.int) (ns.map PyData.int)
  | [] => .nil
  | n :: r => .cons (.int n) (dp_ints r)
theorem eqv_intL (ns ms : List Int) : PyData.eqv (.list (ns.map PyData.int)) (.list (ms.map PyData.int)) = decide (ns = ms) := by
  rw [← SeqAt.same_eq_eqv _ _ (by simp only [SeqAt.noMix]; exact PySem.W.noMix_ints ns ms)]
  simp only [PySem.Spec.same]
  exact PySem.W.same_ints ns ms
/-- two lists of ints compared -/
def rEqI (K : PySem.W.Frag) : R2 := fun x y H Q => ∃ (a b : Addr) (ns ms : List Int), x = .ref a ∧ y = .ref b ∧ SqL K H a (ns.map V.int) ∧ SqL K H b (ms.map V.int) ∧ Q (.bl (decide (ns = ms))) H
def rNeI (K : PySem.W.Frag) : R2 := fun x y H Q => ∃ (a b : Addr) (ns ms : List Int), x = .ref a ∧ y = .ref b ∧ SqL K H a (ns.map V.int) ∧ SqL K H b (ms.map V.int) ∧ Q (.bl (!decide (ns = ms))) H
theorem op_eqI (hu : X.A.units + 64 < cLine) : OpR X (compareOp .Eq) (rEqI X.K) := by
  intro pins s σ H x y v u Q I rx ry h
  obtain ⟨a, b, ns, ms, rfl, rfl, h1, h2, q⟩ := h
  refine op_eqD hu pins s σ H _ _ v u Q I rx ry ⟨_, _, .lst h1 (dp_ints ns), .lst h2 (dp_ints ms), PySem.W.shaped_ints ns, PySem.W.shaped_ints ms, ?_⟩
  rw [eqv_intL]
  exact q
theorem op_neI (hu : X.A.units + 64 < cLine) : OpR X (compareOp .NotEq) (rNeI X.K) := by
  intro pins s σ H x y v u Q I rx ry h
  obtain ⟨a, b, ns, ms, rfl, rfl, h1, h2, q⟩ := h
  refine op_neD hu pins s σ H _ _ v u Q I rx ry ⟨_, _, .lst h1 (dp_ints ns), .lst h2 (dp_ints ms), PySem.W.shaped_ints ns, PySem.W.shaped_ints ms, ?_⟩
  rw [eqv_intL]
  exact q
end
end L2
set_option Elab.async false
set_option linter.all false
set_option maxRecDepth 100000
set_option maxHeartbeats 4000000
namespace Fj
open PySem PySem.Spec PyProof.Rows L2
open Fh (Bytes Piece)
def shF (st : Bool) (d l q : Addr) : List (Str × V) := [("straight", .bl st), ("tags", .ref d), ("lefts", .ref l), ("pile", .ref q)]
theorem shF_mk (st : Bool) (d l q : Addr) : putF "pile" (.ref q) (putF "lefts" (.ref l) (putF "tags" (.ref d) (putF "straight" (.bl st) []))) = shF st d l q := by kernel_rfl
theorem shF_put (st z : Bool) (d l q : Addr) : putF "straight" (.bl z) (shF st d l q) = shF z d l q := by kernel_rfl
theorem shF_straight (st : Bool) (d l q : Addr) : (shF st d l q).lookup ("straight" : Str) = some (.bl st) := by kernel_rfl
theorem shF_tags (st : Bool) (d l q : Addr) : (shF st d l q).lookup ("tags" : Str) = some (.ref d) := by kernel_rfl
theorem shF_lefts (st : Bool) (d l q : Addr) : (shF st d l q).lookup ("lefts" : Str) = some (.ref l) := by kernel_rfl
theorem shF_pile (st : Bool) (d l q : Addr) : (shF st d l q).lookup ("pile" : Str) = some (.ref q) := by kernel_rfl
/-- numbers as the program has them; a tag as a key -/
def nv (ls : List Nat) : List V := (ls.map fun n => ((n : Nat) : Int)).map V.int
def tk (q : Nat × Nat) : List Key := [Sum.inl ((q.1 : Nat) : Int), Sum.inl ((q.2 : Nat) : Int)]
def ents (ts : List (Nat × Nat)) : List (List Key × V) := (ts.map tk).map fun k => (k, V.bl true)
theorem nv_len (ls : List Nat) : (nv ls).length = ls.length := by unfold nv; rw [List.length_map, List.length_map]
theorem nv_app (a b : List Nat) : nv (a ++ b) = nv a ++ nv b := by unfold nv; rw [List.map_append, List.map_append]
theorem tk_inj {p q : Nat × Nat} (h : tk p = tk q) : p = q := by
  obtain ⟨a, b⟩ := p
  obtain ⟨c, d⟩ := q
  unfold tk at h
  injection h with h1 h2
  injection h2 with h2 _
  injection h1 with h1
  injection h2 with h2
  have e1 : a = c := Int.ofNat.inj h1
  have e2 : b = d := Int.ofNat.inj h2
  rw [e1, e2]
theorem ents_val (q : Nat × Nat) : ∀ ts : List (Nat × Nat), valV (ents ts) (tk q) = if q ∈ ts then some (.bl true) else none
  | [] => rfl
  | p :: ts => by
    show valV ((tk p, V.bl true) :: ents ts) (tk q) = _
    by_cases e : p = q
    · subst e
      rw [valV_pos rfl, if_pos (by simp)]
    · rw [valV_neg (fun z => e (tk_inj z)), ents_val q ts]
      by_cases m : q ∈ ts
      · rw [if_pos m, if_pos (List.mem_cons_of_mem _ m)]
      · rw [if_neg m, if_neg]
        intro z
        rcases List.mem_cons.mp z with z | z
        · exact e z.symm
        · exact m z
theorem ents_some (q : Nat × Nat) (ts : List (Nat × Nat)) : (valV (ents ts) (tk q)).isSome = decide (q ∈ ts) := by
  rw [ents_val]
  by_cases m : q ∈ ts
  · rw [if_pos m]; simp [m]
  · rw [if_neg m]; simp [m]
def putT (ts : List (Nat × Nat)) (q : Nat × Nat) : List (Nat × Nat) := if q ∈ ts then ts else ts ++ [q]
theorem ents_put (ts : List (Nat × Nat)) (q : Nat × Nat) : putK (ents ts) (tk q) (.bl true) = ents (putT ts q) := by
  unfold putT
  by_cases m : q ∈ ts
  · rw [if_pos m]
    unfold putK
    rw [valV_any, ents_some, if_pos (by simp [m])]
    unfold ents
    rw [List.map_map]
    refine List.map_congr_left fun k _ => ?_
    show (if k = tk q then (k, V.bl true) else (k, V.bl true)) = _
    split <;> rfl
  · rw [if_neg m, putK_new _ (by rw [ents_val, if_neg m])]
    unfold ents
    rw [List.map_append, List.map_append]
    rfl
theorem ents_len (ts : List (Nat × Nat)) : (ents ts).length = ts.length := by unfold ents; rw [List.length_map, List.length_map]
theorem putT_len (ts : List (Nat × Nat)) (q : Nat × Nat) : (putT ts q).length ≤ ts.length + 1 := by
  unfold putT
  split
  · omega
  · rw [List.length_append]; simp
/-- a Shape at x -/
structure ShAt (C : Addr) (H : Hp) (x dx d l q : Addr) (st : Bool) (ts : List (Nat × Nat)) (ls ps : List Nat) : Prop where
  ob : H x = some (.ins C dx (shF st d l q))
  dc : H d = some (.dT (ents ts))
  ll : H l = some (.lst (nv ls))
  qq : H q = some (.lst (nv ps))
  lq : l ≠ q
theorem ShAt.same {C : Addr} {H H' : Hp} (s : Same H H') {x dx d l q : Addr} {st : Bool} {ts : List (Nat × Nat)} {ls ps : List Nat} (h : ShAt C H x dx d l q st ts ls ps) : ShAt C H' x dx d l q st ts ls ps :=
  ⟨s _ _ h.ob, s _ _ h.dc, s _ _ h.ll, s _ _ h.qq, h.lq⟩
theorem ShAt.setL {C : Addr} {H : Hp} {x dx d l q : Addr} {st : Bool} {ts : List (Nat × Nat)} {ls ps : List Nat} (h : ShAt C H x dx d l q st ts ls ps) (ls' : List Nat) : ShAt C (upd H l (.lst (nv ls'))) x dx d l q st ts ls' ps :=
  ⟨by rw [upd_ne (ne_of h.ob h.ll (by intro z; cases z))]; exact h.ob, by rw [upd_ne (ne_of h.dc h.ll (by intro z; cases z))]; exact h.dc, upd_same, by rw [upd_ne h.lq.symm]; exact h.qq, h.lq⟩
theorem ShAt.setQ {C : Addr} {H : Hp} {x dx d l q : Addr} {st : Bool} {ts : List (Nat × Nat)} {ls ps : List Nat} (h : ShAt C H x dx d l q st ts ls ps) (ps' : List Nat) : ShAt C (upd H q (.lst (nv ps'))) x dx d l q st ts ls ps' :=
  ⟨by rw [upd_ne (ne_of h.ob h.qq (by intro z; cases z))]; exact h.ob, by rw [upd_ne (ne_of h.dc h.qq (by intro z; cases z))]; exact h.dc, by rw [upd_ne h.lq]; exact h.ll, upd_same, h.lq⟩
theorem ShAt.setD {C : Addr} {H : Hp} {x dx d l q : Addr} {st : Bool} {ts : List (Nat × Nat)} {ls ps : List Nat} (h : ShAt C H x dx d l q st ts ls ps) (ts' : List (Nat × Nat)) : ShAt C (upd H d (.dT (ents ts'))) x dx d l q st ts' ls ps :=
  ⟨by rw [upd_ne (ne_of h.ob h.dc (by intro z; cases z))]; exact h.ob, upd_same, by rw [upd_ne (ne_of h.ll h.dc (by intro z; cases z))]; exact h.ll, by rw [upd_ne (ne_of h.qq h.dc (by intro z; cases z))]; exact h.qq, h.lq⟩
theorem ShAt.setS {C : Addr} {H : Hp} {x dx d l q : Addr} {st : Bool} {ts : List (Nat × Nat)} {ls ps : List Nat} (h : ShAt C H x dx d l q st ts ls ps) (st' : Bool) : ShAt C (upd H x (.ins C dx (shF st' d l q))) x dx d l q st' ts ls ps :=
  ⟨upd_same, by rw [upd_ne (ne_of h.dc h.ob (by intro z; cases z))]; exact h.dc, by rw [upd_ne (ne_of h.ll h.ob (by intro z; cases z))]; exact h.ll, by rw [upd_ne (ne_of h.qq h.ob (by intro z; cases z))]; exact h.qq, h.lq⟩
/-- all but the shape's own stands -/
def Kept (H H' : Hp) (x d l q : Addr) : Prop := ∀ b o, H b = some o → b ≠ x → b ≠ d → b ≠ l → b ≠ q → H' b = some o
theorem Kept.of {H H' : Hp} {x d l q : Addr} (s : Same H H') : Kept H H' x d l q := fun b o e _ _ _ _ => s b o e
theorem Kept.trans {H H1 H2 : Hp} {x d l q : Addr} (a : Kept H H1 x d l q) (b : Kept H1 H2 x d l q) : Kept H H2 x d l q := fun c o e h1 h2 h3 h4 => b c o (a c o e h1 h2 h3 h4) h1 h2 h3 h4
theorem Kept.x {H : Hp} {x d l q : Addr} {o : HO} : Kept H (upd H x o) x d l q := fun c o e h1 h2 h3 h4 => by rw [upd_ne h1]; exact e
theorem Kept.d {H : Hp} {x d l q : Addr} {o : HO} : Kept H (upd H d o) x d l q := fun c o e h1 h2 h3 h4 => by rw [upd_ne h2]; exact e
theorem Kept.l {H : Hp} {x d l q : Addr} {o : HO} : Kept H (upd H l o) x d l q := fun c o e h1 h2 h3 h4 => by rw [upd_ne h3]; exact e
theorem Kept.q {H : Hp} {x d l q : Addr} {o : HO} : Kept H (upd H q o) x d l q := fun c o e h1 h2 h3 h4 => by rw [upd_ne h4]; exact e
theorem nv_nil {ps : List Nat} : (ps.map fun n => ((n : Nat) : Int)) = [] ↔ ps = [] := by simp
theorem nv_last {ps : List Nat} {m : Nat} (h : ps.getLast? = some m) : atI (nv ps) (-1) = some (.int (m : Nat)) ∧ (nv ps)[(nv ps).length - 1]? = some (.int (m : Nat)) ∧ (nv ps).dropLast = nv ps.dropLast := by
  obtain ⟨r, rfl⟩ : ∃ r, ps = r ++ [m] := List.getLast?_eq_some_iff.mp h
  rw [nv_app]
  refine ⟨atI_last _ _, ?_, ?_⟩
  · rw [List.length_append]
    show (nv r ++ nv [m])[(nv r).length + 1 - 1]? = _
    rw [Nat.add_sub_cancel, List.getElem?_append_right (Nat.le_refl _), Nat.sub_self]
    rfl
  · show (nv r ++ [_]).dropLast = _
    rw [List.dropLast_concat, List.dropLast_concat]
def closeM (st : Bool) (ls ps : List Nat) (n : Nat) : Bool × List Nat × List Nat :=
  if ps = [] then (st, ls ++ [n], ps) else if ps.getLast? = some n then (st, ls, ps.dropLast) else (false, ls, ps)
def spClose (C : Addr) : Sp := fun vs H Q _ => ∃ (x dx d l q : Addr) (st : Bool) (ts : List (Nat × Nat)) (ls ps : List Nat) (n : Nat), vs = [.ref x, .int (n : Nat)] ∧ ShAt C H x dx d l q st ts ls ps ∧ ls.length ≤ 1000000 ∧
  ∀ H', ShAt C H' x dx d l q (closeM st ls ps n).1 ts (closeM st ls ps n).2.1 (closeM st ls ps n).2.2 → Kept H H' x d l q → Q .non H'
def wrongB (ts : List (Nat × Nat)) (k n : Nat) : Bool := decide ((k, n) ∈ ts) || (decide ((3, n) ∈ ts) || (if k = 3 then decide ((1, n) ∈ ts) || decide ((2, n) ∈ ts) else decide (k = 1) && decide ((2, n) ∈ ts)))
theorem wrongB_iff (ts : List (Nat × Nat)) (k n : Nat) : wrongB ts k n = true ↔ wrong ts k n := by
  unfold wrongB wrong
  by_cases h3 : k = 3
  · simp [h3]
  · simp [h3]
def spWrong : Sp := fun vs H Q _ => ∃ (d : Addr) (ts : List (Nat × Nat)) (k n : Nat), vs = [.ref d, .int (k : Nat), .int (n : Nat)] ∧ H d = some (.dT (ents ts)) ∧ ∀ H', Same H H' → Q (.bl (wrongB ts k n)) H'
section
variable {P : Program} {w : World} {K : PySem.W.Frag} {mg : Str → Option Value} {base : Heap}
theorem sc_take_close : FnScope ["shape", "number"] ["shape", "number"] (defScope s_take_close) := ⟨rfl, rfl, rfl, by decide +kernel, rfl, by decide +kernel, by decide +kernel⟩
theorem ok_take_close (T : Tx K mg) : OkF P w K mg base 1 "take_close" ["shape", "number"] (spClose (He.ga K "Shape")) := by
  refine okf (d := d_take_close) 20 20 (N := ["shape", "number"]) T rfl rfl rfl rfl rfl sc_take_close (fun _ _ _ _ _ _ us hl => match us, hl with | [_, _], _ => rfl) (fun vs H Q E h => ?_) (fun f cdv A outer s H vs Q E hr h => ?_)
  · obtain ⟨x, dx, d, l, q, st, ts, ls, ps, n, rfl, S, hl, h⟩ := h
    rfl
  · obtain ⟨x, dx, d, l, q, st, ts, ls, ps, n, rfl, S, hl, h⟩ := h
    have hu := hu_of hr
    refine ⟨_, (pss_one (ps_if (pt_cmpR (op_eqI hr.units) (pe_fld (pv 0) rfl) (pe_lst pa_nil) (nomark _)) (pss_one (ps_expr (pe_bm PySem.F.plainAttrs_list PySem.F.slot_list_append PySem.F.type_list_append mt_append (pe_fld (pv 0) rfl) (pa_cons (pv 1) pa_nil)))) (pss_one (ps_if (pt_cmpR op_eq (pe_ix ix_list (pe_fld (pv 0) rfl) (pe_un un_neg pe_int) (fun _ _ => rfl)) (pv 1) (nomark _)) (pss_one (ps_expr (pe_bm0 PySem.F.plainAttrs_list PySem.F.slot_list_pop PySem.F.type_list_pop mt_pop (pe_fld (pv 0) rfl)))) (pss_one (ps_fld (pv 0) pe_bl rfl)))))), ?_⟩
    simp [tSeq, tIfS, tTest, tOp, rEq, rNe, rI0, rI, tVar, tC, tRet, tNext, L2.start, scal_ii, scal_nn, scal_in, scal_ni, scal_bb, line1, line2, line3, line7, tAnd, tOr, tNot, CDiv, CMul, tAsg, gName, tAndV, tOrV, tNotV, tCall, tCons, tNil, tCB, rU, tUn, tIf, tB, cx_K, cx_noxK, rIxL, rIxT, tFld, tLst, tDrop, tBM, tBM0, rAppend, rPop, tyV, rEqI, sFld]
    refine ⟨_, _, _, S.ob, T.c_Shape, T.n_Shape_pile, _, shF_pile _ _ _ _, fun p hp => ?_⟩
    have s1 := same_upd (o := .lst []) hp
    have S1 := S.same s1
    refine ⟨q, rfl, _, SqL.of S1.qq, [], SqL.of upd_same, ?_⟩
    by_cases e : ps = []
    · rw [if_pos (nv_nil.mpr e)]
      refine ⟨_, _, _, S1.ob, T.c_Shape, T.n_Shape_lefts, _, shF_lefts _ _ _ _, ⟨_, SqL.of S1.ll⟩, l, rfl, _, S1.ll, by rw [nv_len]; exact Nat.lt_of_le_of_lt hl (by decide), ?_⟩
      have e2 : closeM st ls ps n = (st, ls ++ [n], ps) := if_pos e
      rw [e2] at h
      have e3 : nv ls ++ [.int ((n : Nat) : Int)] = nv (ls ++ [n]) := (nv_app ls [n]).symm
      rw [e3]
      exact h _ (S1.setL _) ((Kept.of s1).trans Kept.l)
    · rw [if_neg (fun z => e (nv_nil.mp z))]
      obtain ⟨m, hm⟩ : ∃ m, ps.getLast? = some m := ⟨ps.getLast e, List.getLast?_eq_some_getLast e⟩
      obtain ⟨k1, k2, k3⟩ := nv_last hm
      refine ⟨_, _, _, S1.ob, T.c_Shape, T.n_Shape_pile, _, shF_pile _ _ _ _, q, rfl, _, SqL.of S1.qq, _, k1, rfl, ?_⟩
      by_cases em : m = n
      · subst em
        rw [if_pos rfl]
        refine ⟨_, _, _, S1.ob, T.c_Shape, T.n_Shape_pile, _, shF_pile _ _ _ _, ⟨_, SqL.of S1.qq⟩, q, rfl, _, S1.qq, ⟨_, k2⟩, ?_⟩
        have e2 : closeM st ls ps m = (st, ls, ps.dropLast) := by unfold closeM; rw [if_neg e, if_pos hm]
        rw [e2] at h
        rw [k3]
        exact h _ (S1.setQ _) ((Kept.of s1).trans Kept.q)
      · rw [if_neg (fun z => em (by injection z with z; exact Int.ofNat.inj z))]
        refine ⟨_, _, _, S1.ob, T.c_Shape, T.n_Shape_straight, by show 4 < 1000; decide, ?_⟩
        have e2 : closeM st ls ps n = (false, ls, ps) := by unfold closeM; rw [if_neg e, if_neg (by rw [hm]; intro z; exact em (Option.some.inj z))]
        rw [e2] at h
        rw [shF_put]
        exact h _ (S1.setS _) ((Kept.of s1).trans Kept.x)
theorem sc_stands_wrong : FnScope ["tags", "kind", "number"] ["tags", "kind", "number"] (defScope s_stands_wrong) := ⟨rfl, rfl, rfl, by decide +kernel, rfl, by decide +kernel, by decide +kernel⟩
theorem ok_stands_wrong (T : Tx K mg) : OkF P w K mg base 1 "stands_wrong" ["tags", "kind", "number"] spWrong := by
  refine okf (d := d_stands_wrong) 21 21 (N := ["tags", "kind", "number"]) T rfl rfl rfl rfl rfl sc_stands_wrong (fun _ _ _ _ _ _ us hl => match us, hl with | [_, _, _], _ => rfl) (fun vs H Q E h => ?_) (fun f cdv A outer s H vs Q E hr h => ?_)
  · obtain ⟨d, ts, k, n, rfl, hd, h⟩ := h
    rfl
  · obtain ⟨d, ts, k, n, rfl, hd, h⟩ := h
    have hu := hu_of hr
    refine ⟨_, (pss_cons (ps_if (PW.pt (pw_or (pt_cmp (pc_din hu (pe_tup (pa_cons (pv 1) (pa_cons (pv 2) pa_nil))) (pv 0))) (pw_or1 (pt_cmp (pc_din hu (pe_tup (pa_cons (pe_gi T.i_ALONE) (pa_cons (pv 2) pa_nil))) (pv 0)))))) (pss_one (ps_ret pe_bl)) pss_nil)
      (pss_cons (ps_if (pt_cmpR op_eq (pv 1) (pe_gi T.i_ALONE) (nomark _)) (pss_one (ps_ret (pe_or (pe_cmp (pc_din hu (pe_tup (pa_cons (pe_gi T.i_OPENING) (pa_cons (pv 2) pa_nil))) (pv 0)) rfl) (pe_one (pe_cmp (pc_din hu (pe_tup (pa_cons (pe_gi T.i_CLOSING) (pa_cons (pv 2) pa_nil))) (pv 0)) rfl))))) pss_nil)
      (pss_one (ps_ret (pe_and (pe_cmpR op_eq (pv 1) (pe_gi T.i_OPENING) (nomark _)) (pe_one (pe_cmp (pc_din hu (pe_tup (pa_cons (pe_gi T.i_CLOSING) (pa_cons (pv 2) pa_nil))) (pv 0)) rfl))))))), ?_⟩
    simp [tSeq, tIfS, tTest, tOp, rEq, rNe, rI0, rI, tVar, tC, tRet, tNext, L2.start, scal_ii, scal_nn, scal_in, scal_ni, scal_bb, line1, line2, line3, line7, tAnd, tOr, tNot, CDiv, CMul, tAsg, gName, tAndV, tOrV, tNotV, tCall, tCons, tNil, tCB, rU, tUn, tIf, tB, cx_K, cx_noxK, rIxL, rIxT, tTup, tDIn]
    intro p1 h1
    have s1 := same_upd (o := .tup [.int (k : Nat), .int (n : Nat)]) h1
    refine ⟨_, DGet.t (k := tk (k, n)) (s1 _ _ hd) upd_same, ?_⟩
    rw [ents_some]
    unfold wrongB at h
    by_cases w1 : (k, n) ∈ ts
    · rw [if_pos (by simp [w1])]
      simp only [w1, decide_true, Bool.true_or] at h
      exact h _ s1
    rw [if_neg (by simp [w1])]
    simp only [w1, decide_false, Bool.false_or] at h
    intro p2 h2
    have s2 := s1.trans (same_upd (o := .tup [.int 3, .int (n : Nat)]) h2)
    refine ⟨_, DGet.t (k := tk (3, n)) (s2 _ _ hd) upd_same, ?_⟩
    rw [ents_some]
    by_cases w2 : (3, n) ∈ ts
    · rw [if_pos (by simp [w2])]
      simp only [w2, decide_true, Bool.true_or] at h
      exact h _ s2
    rw [if_neg (by simp [w2])]
    simp only [w2, decide_false, Bool.false_or] at h
    by_cases k3 : k = 3
    · rw [if_pos (by omega)]
      rw [if_pos k3] at h
      intro p3 h3
      have s3 := s2.trans (same_upd (o := .tup [.int 1, .int (n : Nat)]) h3)
      refine ⟨_, DGet.t (k := tk (1, n)) (s3 _ _ hd) upd_same, ?_⟩
      rw [ents_some]
      by_cases w3 : (1, n) ∈ ts
      · rw [if_pos (by simp [w3])]
        simp only [w3, decide_true, Bool.true_or] at h
        exact h _ s3
      rw [if_neg (by simp [w3])]
      simp only [w3, decide_false, Bool.false_or] at h
      intro p4 h4
      have s4 := s3.trans (same_upd (o := .tup [.int 2, .int (n : Nat)]) h4)
      refine ⟨_, DGet.t (k := tk (2, n)) (s4 _ _ hd) upd_same, ?_⟩
      rw [ents_some]
      exact h _ s4
    · rw [if_neg (by omega)]
      rw [if_neg k3] at h
      by_cases k1 : k = 1
      · rw [if_pos (by omega)]
        simp only [k1, decide_true, Bool.true_and] at h
        intro p3 h3
        have s3 := s2.trans (same_upd (o := .tup [.int 2, .int (n : Nat)]) h3)
        refine ⟨_, DGet.t (k := tk (2, n)) (s3 _ _ hd) upd_same, ?_⟩
        rw [ents_some]
        exact h _ s3
      · rw [if_neg (by omega)]
        simp only [k1, decide_false, Bool.false_and] at h
        exact h _ s2
end
end Fj
set_option Elab.async false
set_option linter.all false
set_option maxRecDepth 100000
set_option maxHeartbeats 4000000
namespace Fj
open PySem PySem.Spec PyProof.Rows L2
open Fh (Bytes Piece)
structure ShS where
  st : Bool
  ts : List (Nat × Nat)
  ls : List Nat
  ps : List Nat
def tagM (z : ShS) (k n : Nat) : ShS :=
  let st1 := z.st && !wrongB z.ts k n
  let ts1 := putT z.ts (k, n)
  if k = 1 then ⟨st1, ts1, z.ls, z.ps ++ [n]⟩ else if k = 2 then ⟨(closeM st1 z.ls z.ps n).1, ts1, (closeM st1 z.ls z.ps n).2.1, (closeM st1 z.ls z.ps n).2.2⟩ else ⟨st1, ts1, z.ls, z.ps⟩
/-- what is known of a row gone through so far -/
def Told (pre : Fh.Row) (z : ShS) : Prop := (z.st = true ∧ z.ts = tgs pre ∧ Good pre z.ls z.ps) ∨ (z.st = false ∧ ∀ rest, Fh.straight (pre ++ rest) = false)
theorem told_nil : Told [] ⟨true, [], [], []⟩ := .inl ⟨rfl, rfl, good_nil⟩
theorem told_bad {pre : Fh.Row} {x : Piece} {z z' : ShS} (h : z.st = false ∧ ∀ rest, Fh.straight (pre ++ rest) = false) (e : z'.st = false) : Told (pre ++ [x]) z' := .inr ⟨e, fun rest => by
  rw [List.append_assoc]
  exact h.2 _⟩
theorem told_char {pre : Fh.Row} {z : ShS} (h : Told pre z) (c : Nat) : Told (pre ++ [.char c]) z := by
  rcases h with ⟨h1, h2, h3⟩ | h
  · refine .inl ⟨h1, ?_, good_char h3 c⟩
    rw [h2, tgs_app]
    simp [tgs, tagPair]
  · exact told_bad h h.1
theorem closeM_st (ls ps : List Nat) (n : Nat) : (closeM false ls ps n).1 = false := by
  unfold closeM
  split
  · rfl
  · split <;> rfl
theorem tagM_bad {z : ShS} {k n : Nat} (h : (z.st && !wrongB z.ts k n) = false) : (tagM z k n).st = false := by
  unfold tagM
  simp only [h]
  split
  · rfl
  · split
    · exact closeM_st _ _ _
    · rfl
theorem told_tag {pre : Fh.Row} {z : ShS} (h : Told pre z) {x : Piece} {k n : Nat} (hx : tagPair x = some (k, n)) : Told (pre ++ [x]) (tagM z k n) := by
  rcases h with ⟨h1, h2, g⟩ | h
  · by_cases w : wrong (tgs pre) k n
    · have wb : wrongB z.ts k n = true := by rw [h2]; exact (wrongB_iff _ _ _).mpr w
      refine .inr ⟨tagM_bad (by rw [wb]; simp), fun rest => ?_⟩
      rw [List.append_assoc]
      exact bad_tag g hx w rest
    · have wb : wrongB z.ts k n = false := by
        cases e : wrongB z.ts k n with
        | false => rfl
        | true => exact absurd ((wrongB_iff _ _ _).mp (by rw [h2] at e; exact e)) w
      have nin : (k, n) ∉ z.ts := fun m => w (.inl (by rw [← h2]; exact m))
      have et : putT z.ts (k, n) = tgs (pre ++ [x]) := by
        unfold putT
        rw [if_neg nin, h2, tgs_app]
        congr 1
        show _ = List.filterMap tagPair [x]
        simp [hx]
      cases x with
      | char c => simp [tagPair] at hx
      | open_ m =>
        obtain ⟨rfl, rfl⟩ : 1 = k ∧ m = n := by simpa [tagPair] using hx
        refine .inl ⟨?_, et, good_open g w⟩
        show (z.st && !wrongB z.ts 1 m) = true
        rw [h1, wb]
        rfl
      | alone m =>
        obtain ⟨rfl, rfl⟩ : 3 = k ∧ m = n := by simpa [tagPair] using hx
        refine .inl ⟨?_, et, good_alone g w⟩
        show (z.st && !wrongB z.ts 3 m) = true
        rw [h1, wb]
        rfl
      | close m =>
        obtain ⟨rfl, rfl⟩ : 2 = k ∧ m = n := by simpa [tagPair] using hx
        have e0 : (z.st && !wrongB z.ts 2 m) = true := by rw [h1, wb]; rfl
        have e1 : tagM z 2 m = ⟨(closeM true z.ls z.ps m).1, putT z.ts (2, m), (closeM true z.ls z.ps m).2.1, (closeM true z.ls z.ps m).2.2⟩ := by
          unfold tagM
          simp only [e0]
          rfl
        rw [e1]
        by_cases ep : z.ps = []
        · have ec : closeM true z.ls z.ps m = (true, z.ls ++ [m], z.ps) := if_pos ep
          rw [ec]
          refine .inl ⟨rfl, et, ?_⟩
          show Good _ (z.ls ++ [m]) z.ps
          rw [ep] at g ⊢
          exact good_close0 g w
        · obtain ⟨j, hj⟩ : ∃ j, z.ps.getLast? = some j := ⟨z.ps.getLast ep, List.getLast?_eq_some_getLast ep⟩
          obtain ⟨r, er⟩ : ∃ r, z.ps = r ++ [j] := List.getLast?_eq_some_iff.mp hj
          by_cases ej : j = m
          · have ec : closeM true z.ls z.ps m = (true, z.ls, z.ps.dropLast) := by unfold closeM; rw [if_neg ep, if_pos (by rw [hj, ej])]
            rw [ec]
            refine .inl ⟨rfl, et, ?_⟩
            show Good _ z.ls z.ps.dropLast
            rw [er, List.dropLast_concat]
            rw [er, ej] at g
            exact good_close g w
          · have ec : closeM true z.ls z.ps m = (false, z.ls, z.ps) := by unfold closeM; rw [if_neg ep, if_neg (by rw [hj]; intro q; exact ej (Option.some.inj q))]
            rw [ec]
            refine .inr ⟨rfl, fun rest => ?_⟩
            rw [List.append_assoc]
            rw [er] at g
            exact bad_close g ej rest
  · exact told_bad h (tagM_bad (by rw [h.1]; rfl))
theorem closeM_len (st : Bool) (ls ps : List Nat) (n : Nat) : (closeM st ls ps n).2.1.length ≤ ls.length + 1 ∧ (closeM st ls ps n).2.2.length ≤ ps.length := by
  unfold closeM
  split
  · simp
  · split
    · simp
    · simp
theorem tagM_len (z : ShS) (k n : Nat) : (tagM z k n).ts.length ≤ z.ts.length + 1 ∧ (tagM z k n).ls.length ≤ z.ls.length + 1 ∧ (tagM z k n).ps.length ≤ z.ps.length + 1 := by
  have t := putT_len z.ts (k, n)
  have c := closeM_len (z.st && !wrongB z.ts k n) z.ls z.ps n
  unfold tagM
  simp only
  split
  · exact ⟨t, by simp, by simp⟩
  · split
    · exact ⟨t, c.1, Nat.le_succ_of_le c.2⟩
    · exact ⟨t, by simp, by simp⟩
abbrev ShZ (C : Addr) (H : Hp) (x dx d l q : Addr) (z : ShS) : Prop := ShAt C H x dx d l q z.st z.ts z.ls z.ps
def spTakeTag (C : Addr) : Sp := fun vs H Q _ => ∃ (x dx d l q t : Addr) (z : ShS) (k n : Nat), vs = [.ref x, .ref t] ∧ H t = some (.tup [.int (k : Nat), .int (n : Nat)]) ∧ ShZ C H x dx d l q z ∧ z.ts.length ≤ 1000000 ∧ z.ls.length ≤ 1000000 ∧ z.ps.length ≤ 1000000 ∧
  ∀ H', ShZ C H' x dx d l q (tagM z k n) → Kept H H' x d l q → Q .non H'
theorem tup_kept {H H' : Hp} {x d l q : Addr} {C dx : Addr} {st : Bool} {ts : List (Nat × Nat)} {ls ps : List Nat} (S : ShAt C H x dx d l q st ts ls ps) (k : Kept H H' x d l q) {t : Addr} {vs : List V} (h : H t = some (.tup vs)) : H' t = some (.tup vs) :=
  k t _ h (ne_of h S.ob (by intro z; cases z)) (ne_of h S.dc (by intro z; cases z)) (ne_of h S.ll (by intro z; cases z)) (ne_of h S.qq (by intro z; cases z))
section
variable {P : Program} {w : World} {K : PySem.W.Frag} {mg : Str → Option Value} {base : Heap}
def spShInit (C : Addr) : Sp := fun vs H Q _ => ∃ (x dx : Addr), vs = [.ref x] ∧ H x = some (.ins C dx []) ∧ ∀ (d l q : Addr) (H' : Hp), H d = none → H l = none → H q = none →
  ShAt C H' x dx d l q true [] [] [] → (∀ b o, H b = some o → b ≠ x → H' b = some o) → Q .non H'
theorem sc_Shape_init : FnScope ["self"] ["self"] (defScope s_Shape_init) := ⟨rfl, rfl, rfl, by decide +kernel, rfl, by decide +kernel, by decide +kernel⟩
noncomputable def fd_Shape_init (T : Tx K mg) : FuncData := Classical.choose (T.says.def_ 83 (d := d_Shape_init) rfl)
theorem fn_Shape_init (T : Tx K mg) : FunD K "__init__" "Shape.__init__" (defArgs s_Shape_init) (defBody s_Shape_init) (defScope s_Shape_init) [] [] (He.ma K (He.ga K "Shape") "__init__") (fd_Shape_init T) := Classical.choose_spec (T.says.def_ 83 (d := d_Shape_init) rfl)
theorem b_Shape_init (T : Tx K mg) : Binds K (fd_Shape_init T) ["self"] [] := FunD.bindsN (fn_Shape_init T) (fun _ _ _ _ _ _ us hl => match us, hl with | [_], _ => rfl)
theorem ok_Shape_init (T : Tx K mg) : FnOk P w K mg base CX0 1 (He.ma K (He.ga K "Shape") "__init__") (fd_Shape_init T) ["self"] (spShInit (He.ga K "Shape")) := by
  refine FunD.ok (fn_Shape_init T) sc_Shape_init (fun vs H Q E h => ?_) (fun cdv A outer s H vs Q E hr h => ok_nox ?_)
  · obtain ⟨x, dx, rfl, hx, h⟩ := h
    rfl
  · obtain ⟨x, dx, rfl, hx, h⟩ := h
    have hu := hu_of hr
    refine ⟨_, (pss_cons (ps_fld (pv 0) pe_bl rfl)
      (pss_cons (ps_fld (pv 0) pe_dnewT rfl)
      (pss_cons (ps_fld (pv 0) (pe_lst pa_nil) rfl)
      (pss_one (ps_fld (pv 0) (pe_lst pa_nil) rfl))))), ?_⟩
    simp [tSeq, tIfS, tTest, tOp, rEq, rNe, rI0, rI, tVar, tC, tRet, tNext, L2.start, scal_ii, scal_nn, scal_in, scal_ni, scal_bb, line1, line2, line3, line7, tAnd, tOr, tNot, CDiv, CMul, tAsg, gName, tAndV, tOrV, tNotV, tCall, tCons, tNil, tCB, rU, tUn, tIf, tB, cx_K, cx_noxK, rIxL, rIxT, sFld, tLst, tDNewT]
    refine ⟨_, _, _, hx, T.c_Shape, T.n_Shape_straight, by decide, fun d hd => ?_⟩
    have n1 : x ≠ d := ne_of_none upd_same hd
    refine ⟨_, _, _, (by rw [upd_ne n1, upd_same]), T.c_Shape, T.n_Shape_tags, (by show 1 < 1000; decide), fun l hl => ?_⟩
    have n2 : x ≠ l := ne_of_none upd_same hl
    have n12 : d ≠ l := ne_of_none (by rw [upd_ne n1.symm]; exact upd_same) hl
    refine ⟨_, _, _, (by rw [upd_ne n2, upd_same]), T.c_Shape, T.n_Shape_lefts, putF_few (putF_few (by decide)), fun q hq => ?_⟩
    have n3 : x ≠ q := ne_of_none upd_same hq
    have n23 : l ≠ q := ne_of_none (by rw [upd_ne n2.symm]; exact upd_same) hq
    have n13 : d ≠ q := ne_of_none (by rw [upd_ne n1.symm, upd_ne n12, upd_ne n1.symm]; exact upd_same) hq
    refine ⟨_, _, _, (by rw [upd_ne n3, upd_same]), T.c_Shape, T.n_Shape_pile, putF_few (putF_few (putF_few (by decide))), ?_⟩
    have f1 : H d = none := by rw [upd_ne n1.symm] at hd; exact hd
    have f2 : H l = none := by rw [upd_ne n2.symm, upd_ne n12.symm, upd_ne n2.symm] at hl; exact hl
    have f3 : H q = none := by rw [upd_ne n3.symm, upd_ne n23.symm, upd_ne n3.symm, upd_ne n13.symm, upd_ne n3.symm] at hq; exact hq
    refine h d l q _ f1 f2 f3 ⟨?_, ?_, ?_, ?_, n23⟩ ?_
    · rw [upd_same, shF_mk]
    · rw [upd_ne n1.symm, upd_ne n13, upd_ne n1.symm, upd_ne n12, upd_ne n1.symm, upd_same]
      rfl
    · rw [upd_ne n2.symm, upd_ne n23, upd_ne n2.symm, upd_same]
      rfl
    · rw [upd_ne n3.symm, upd_same]
      rfl
    · intro b o e hb
      rw [upd_ne hb, upd_ne (ne_of_none e f3), upd_ne hb, upd_ne (ne_of_none e f2), upd_ne hb, upd_ne (ne_of_none e f1), upd_ne hb]
      exact e
theorem sc_take_tag : FnScope ["shape", "tag"] ["shape", "tag"] (defScope s_take_tag) := ⟨rfl, rfl, rfl, by decide +kernel, rfl, by decide +kernel, by decide +kernel⟩
theorem ok_take_tag (T : Tx K mg) : OkF P w K mg base 2 "take_tag" ["shape", "tag"] (spTakeTag (He.ga K "Shape")) := by
  refine okf (d := d_take_tag) 19 19 (N := ["shape", "tag"]) T rfl rfl rfl rfl rfl sc_take_tag (fun _ _ _ _ _ _ us hl => match us, hl with | [_, _], _ => rfl) (fun vs H Q E h => ?_) (fun f cdv A outer s H vs Q E hr h => ?_)
  · obtain ⟨x, dx, d, l, q, t, z, k, n, rfl, ht, S, b1, b2, b3, h⟩ := h
    rfl
  · obtain ⟨x, dx, d, l, q, t, z, k, n, rfl, ht, S, b1, b2, b3, h⟩ := h
    have hu := hu_of hr
    refine ⟨_, (pss_mid (ps_if (pt_val (pe_callF (ok_stands_wrong T) (hr.mono (by decide)) (pa_cons (pe_fld (pv 0) rfl) (pa_cons (pe_ix ix_tup (pv 1) pe_int (fun _ _ => rfl)) (pa_cons (pe_ix ix_tup (pv 1) pe_int (fun _ _ => rfl)) pa_nil))))) (pss_one (ps_fld (pv 0) pe_bl rfl)) pss_nil)
      (pss_cons (ps_dput hu (pe_fld (pv 0) rfl) (pv 1) pe_bl rfl)
      (pss_mid (ps_if (pt_cmpR op_eq (pe_ix ix_tup (pv 1) pe_int (fun _ _ => rfl)) (pe_gi T.i_OPENING) (nomark _)) (pss_one (ps_expr (pe_bm PySem.F.plainAttrs_list PySem.F.slot_list_append PySem.F.type_list_append mt_append (pe_fld (pv 0) rfl) (pa_cons (pe_ix ix_tup (pv 1) pe_int (fun _ _ => rfl)) pa_nil)))) pss_nil)
      (pss_one (ps_if (pt_cmpR op_eq (pe_ix ix_tup (pv 1) pe_int (fun _ _ => rfl)) (pe_gi T.i_CLOSING) (nomark _)) (pss_one (ps_expr (pe_callF (ok_take_close T) (hr.mono (by decide)) (pa_cons (pv 0) (pa_cons (pe_ix ix_tup (pv 1) pe_int (fun _ _ => rfl)) pa_nil))))) pss_nil))))), ?_⟩
    refine ⟨fun σ H1 => σ = [some (.ref x), some (.ref t)] ∧ ShAt (He.ga K "Shape") H1 x dx d l q (z.st && !wrongB z.ts k n) z.ts z.ls z.ps ∧ Kept H H1 x d l q, ?_, ?_⟩
    · simp [tSeq, tIfS, tTest, tOp, rEq, rNe, rI0, rI, tVar, tC, tRet, tNext, L2.start, scal_ii, scal_nn, scal_in, scal_ni, scal_bb, line1, line2, line3, line7, tAnd, tOr, tNot, CDiv, CMul, tAsg, gName, tAndV, tOrV, tNotV, tCall, tCons, tNil, tCB, rU, tUn, tIf, tB, cx_K, cx_noxK, rIxL, rIxT, tFld, sFld]
      refine ⟨_, _, _, S.ob, T.c_Shape, T.n_Shape_tags, _, shF_tags _ _ _ _, _, SqT.of ht, _, atI_nat (j := 0) rfl, _, SqT.of ht, _, atI_nat (j := 1) rfl, d, z.ts, k, n, rfl, S.dc, fun H1 s1 => ?_⟩
      have S1 := S.same s1
      cases e : wrongB z.ts k n with
      | false =>
        refine .inl ⟨rfl, ?_, Kept.of s1⟩
        rw [Bool.not_false, Bool.and_true]
        exact S1
      | true =>
        refine .inr ⟨rfl, _, _, _, S1.ob, T.c_Shape, T.n_Shape_straight, by show 4 < 1000; decide, ?_, ?_⟩
        · rw [shF_put, Bool.not_true, Bool.and_false]
          exact S1.setS false
        · exact (Kept.of s1).trans Kept.x
    · rintro σ H1 ⟨rfl, S1, k1⟩
      have ht1 := tup_kept S k1 ht
      simp [tSeq, tIfS, tTest, tOp, rEq, rNe, rI0, rI, tVar, tC, tRet, tNext, L2.start, scal_ii, scal_nn, scal_in, scal_ni, scal_bb, line1, line2, line3, line7, tAnd, tOr, tNot, CDiv, CMul, tAsg, gName, tAndV, tOrV, tNotV, tCall, tCons, tNil, tCB, rU, tUn, tIf, tB, cx_K, cx_noxK, rIxL, rIxT, tFld, sDPut]
      refine ⟨_, _, _, S1.ob, T.c_Shape, T.n_Shape_tags, _, shF_tags _ _ _ _, d, rfl, _, DPut.t (k := tk (k, n)) S1.dc ht1 (by rw [ents_len]; exact Nat.lt_of_le_of_lt b1 (by decide)), ?_⟩
      rw [ents_put]
      have S2 := S1.setD (putT z.ts (k, n))
      have k2 : Kept H (upd H1 d (.dT (ents (putT z.ts (k, n))))) x d l q := k1.trans Kept.d
      have ht2 := tup_kept S k2 ht
      refine ⟨fun σ H3 => σ = [some (.ref x), some (.ref t)] ∧ ShAt (He.ga K "Shape") H3 x dx d l q (z.st && !wrongB z.ts k n) (putT z.ts (k, n)) z.ls (if k = 1 then z.ps ++ [n] else z.ps) ∧ Kept H H3 x d l q, ?_, ?_⟩
      · simp [tSeq, tIfS, tTest, tOp, rEq, rNe, rI0, rI, tVar, tC, tRet, tNext, L2.start, scal_ii, scal_nn, scal_in, scal_ni, scal_bb, line1, line2, line3, line7, tAnd, tOr, tNot, CDiv, CMul, tAsg, gName, tAndV, tOrV, tNotV, tCall, tCons, tNil, tCB, rU, tUn, tIf, tB, cx_K, cx_noxK, rIxL, rIxT, tFld, tDrop, tBM, rAppend, tyV]
        refine ⟨_, SqT.of ht2, _, atI_nat (j := 0) rfl, rfl, ?_⟩
        by_cases e1 : k = 1
        · subst e1
          rw [if_pos rfl]
          refine ⟨_, _, _, S2.ob, T.c_Shape, T.n_Shape_pile, _, shF_pile _ _ _ _, ⟨_, SqL.of S2.qq⟩, _, SqT.of ht2, _, atI_nat (j := 1) rfl, q, rfl, _, S2.qq, by rw [nv_len]; exact Nat.lt_of_le_of_lt b3 (by decide), ?_, ?_⟩
          · rw [show nv z.ps ++ [.int ((n : Nat) : Int)] = nv (z.ps ++ [n]) from (nv_app z.ps [n]).symm]
            exact S2.setQ _
          · exact k2.trans Kept.q
        · rw [if_neg (fun y => e1 (by injection y with y; exact Int.ofNat.inj y)), if_neg e1]
          exact ⟨S2, k2⟩
      · rintro σ H3 ⟨rfl, S3, k3⟩
        have ht3 := tup_kept S k3 ht
        simp [tSeq, tIfS, tTest, tOp, rEq, rNe, rI0, rI, tVar, tC, tRet, tNext, L2.start, scal_ii, scal_nn, scal_in, scal_ni, scal_bb, line1, line2, line3, line7, tAnd, tOr, tNot, CDiv, CMul, tAsg, gName, tAndV, tOrV, tNotV, tCall, tCons, tNil, tCB, rU, tUn, tIf, tB, cx_K, cx_noxK, rIxL, rIxT, tFld, tDrop]
        refine ⟨_, SqT.of ht3, _, atI_nat (j := 0) rfl, rfl, ?_⟩
        by_cases e2 : k = 2
        · subst e2
          rw [if_pos (show V.int ((2 : Nat) : Int) = V.int 2 from rfl)]
          refine ⟨_, SqT.of ht3, _, atI_nat (j := 1) rfl, x, dx, d, l, q, _, _, _, _, n, rfl, S3, b2, fun H4 S4 k4 => h _ ?_ (k3.trans k4)⟩
          exact S4
        · rw [if_neg (fun y => e2 (by injection y with y; exact Int.ofNat.inj y))]
          refine h _ ?_ k3
          by_cases e1 : k = 1
          · subst e1
            exact S3
          · rw [if_neg e1] at S3
            have e3 : tagM z k n = ⟨z.st && !wrongB z.ts k n, putT z.ts (k, n), z.ls, z.ps⟩ := by unfold tagM; simp only; rw [if_neg e1, if_neg e2]
            rw [e3]
            exact S3
/-- a Shape of a row -/
def ShapeOf (K : PySem.W.Frag) (H : Hp) (x : Addr) (r : Fh.Row) : Prop := ∃ (dx d l q : Addr) (z : ShS), ShZ (He.ga K "Shape") H x dx d l q z ∧ Told r z
theorem piece_kinds (pc : Piece) : (∃ c, pc = .char c) ∨ ∃ k n : Nat, kindOf pc = ((k : Nat) : Int) ∧ numOf pc = n ∧ tagPair pc = some (k, n) ∧ k ≠ 0 := by
  cases pc with
  | char c => exact .inl ⟨c, rfl⟩
  | open_ n => exact .inr ⟨1, n, rfl, rfl, rfl, by decide⟩
  | close n => exact .inr ⟨2, n, rfl, rfl, rfl, by decide⟩
  | alone n => exact .inr ⟨3, n, rfl, rfl, rfl, by decide⟩
def spShape (K : PySem.W.Frag) : Sp := fun vs H Q _ => ∃ (a : Addr) (ts : List V) (r : Fh.Row), vs = [.ref a] ∧ SqL K H a ts ∧ All2 (PcAt H) ts r ∧ r.length ≤ 1000000 ∧ ∀ H' x, Same H H' → ShapeOf K H' x r → Q (.ref x) H'
theorem take_snoc {α : Type} {l : List α} {i : Nat} {x : α} (h : l[i]? = some x) : l.take (i + 1) = l.take i ++ [x] := by
  rw [List.take_add_one, h]
  rfl
theorem sc_shape_of : FnScope ["pieces", "shape", "piece"] ["pieces"] (defScope s_shape_of) := ⟨rfl, rfl, rfl, by decide +kernel, rfl, by decide +kernel, by decide +kernel⟩
theorem ok_shape_of (T : Tx K mg) : OkF P w K mg base 3 "shape_of" ["pieces"] (spShape K) := by
  refine okf (d := d_shape_of) 18 18 (N := ["pieces", "shape", "piece"]) T rfl rfl rfl rfl rfl sc_shape_of (fun _ _ _ _ _ _ us hl => match us, hl with | [_], _ => rfl) (fun vs H Q E h => ?_) (fun f cdv A outer s H vs Q E hr h => ?_)
  · obtain ⟨a, ts, r, rfl, hS, al, hl, h⟩ := h
    rfl
  · obtain ⟨a, ts, r, rfl, hS, al, hl, h⟩ := h
    have hu := hu_of hr
    refine ⟨_, (pss_cons (ps_set (i := 1) sc_shape_of.nd rfl (Or.inl rfl) (pe_make0 T.k_Shape (ok_Shape_init T) (hr.mono (by decide)) rfl T.g_Shape (b_Shape_init T) .nil pass0))
      (pss_cons (ps_for PassesOwn.never rfl (pi_list (pv 0)) (pg_name (i := 2) sc_shape_of.nd rfl (Or.inl rfl))
        (pss_one (ps_if (pt_cmpR op_ne (pe_ix ix_tup (pv 2) pe_int (fun _ _ => rfl)) (pe_gi T.i_CHARACTER) (nomark _)) (pss_one (ps_expr (pe_callF (ok_take_tag T) (hr.mono (by decide)) (pa_cons (pv 1) (pa_cons (pv 2) pa_nil))))) pss_nil)))
      (pss_one (ps_ret (pv 1))))), ?_⟩
    simp [tSeq, tIfS, tTest, tOp, rEq, rNe, rI0, rI, tVar, tC, tRet, tNext, L2.start, scal_ii, scal_nn, scal_in, scal_ni, scal_bb, line1, line2, line3, line7, tAnd, tOr, tNot, CDiv, CMul, tAsg, gName, tAndV, tOrV, tNotV, tCall, tCons, tNil, tCB, rU, tUn, tIf, tB, cx_K, cx_noxK, rIxL, rIxT, tMake]
    intro x dx nx ndx nex
    refine ⟨x, dx, rfl, upd_same, fun d l q H1 f1 f2 f3 S kp => ⟨rfl, ?_⟩⟩
    have s0 : Same H (upd (upd H dx (.own x)) x (.ins (He.ga K "Shape") dx [])) := fun b o e => by
      rw [upd_ne (ne_of_none e nx), upd_ne (ne_of_none e ndx)]
      exact e
    have s1 : Same H H1 := Same.made nx ndx kp
    have g1 := s0.free f1
    have g2 := s0.free f2
    have g3 := s0.free f3
    refine ⟨_, rfl, a, rfl, ⟨_, s1.seq hS⟩, for_list (K := K) (a := a) (xs := ts) (fun i σ H2 => ∃ (z : ShS) (t : Option V), σ = [some (.ref a), some (.ref x), t] ∧ Same H H2 ∧ ShZ (He.ga K "Shape") H2 x dx d l q z ∧ Told (r.take i) z ∧ z.ts.length ≤ i ∧ z.ls.length ≤ i ∧ z.ps.length ≤ i)
      ⟨⟨true, [], [], []⟩, none, rfl, s1, S, told_nil, Nat.le_refl _, Nat.le_refl _, Nat.le_refl _⟩ (fun i σ H2 _ ⟨_, _, _, s2, _⟩ => s2.seq hS) ?_ ?_⟩
    · rintro i y σ H2 hi ⟨z, t, rfl, s2, S2, td, b1, b2, b3⟩
      obtain ⟨pc, hpc, tt, rfl, htt⟩ := al.at hi
      have ht2 := s2 _ _ htt
      have il : i < r.length := (List.getElem?_eq_some_iff.mp hpc).1
      simp [tSeq, tIfS, tTest, tOp, rEq, rNe, rI0, rI, tVar, tC, tRet, tNext, L2.start, scal_ii, scal_nn, scal_in, scal_ni, scal_bb, line1, line2, line3, line7, tAnd, tOr, tNot, CDiv, CMul, tAsg, gName, tAndV, tOrV, tNotV, tCall, tCons, tNil, tCB, rU, tUn, tIf, tB, cx_K, cx_noxK, rIxL, rIxT, tDrop]
      refine ⟨_, SqT.of ht2, _, atI_nat (j := 0) rfl, rfl, ?_⟩
      rcases piece_kinds pc with ⟨c, rfl⟩ | ⟨k, n, e1, e2, e3, e4⟩
      · refine .inl ⟨rfl, s2, z, S2, ?_, by omega, by omega, by omega⟩
        rw [take_snoc hpc]
        exact told_char td c
      · rw [e1, e2] at ht2
        rw [e1]
        have tl := tagM_len z k n
        refine .inr ⟨fun y => e4 (by injection y with y; exact Int.ofNat.inj y), x, dx, d, l, q, tt, z, k, n, rfl, ht2, S2, by omega, by omega, by omega, fun H3 S3 k3 => ⟨fun b o e => ?_, tagM z k n, S3, ?_, by omega, by omega, by omega⟩⟩
        · exact k3 b o (s2 b o e) (ne_of_none e nx) (ne_of_none e g1) (ne_of_none e g2) (ne_of_none e g3)
        · rw [take_snoc hpc]
          exact told_tag td e3
    · rintro σ H2 ⟨z, t, rfl, s2, S2, td, _⟩
      rw [al.len, List.take_length] at td
      exact ⟨_, rfl, h _ _ s2 ⟨dx, d, l, q, z, S2, td⟩⟩
def spStraight (K : PySem.W.Frag) : Sp := fun vs H Q _ => ∃ (a : Addr) (ts : List V) (r : Fh.Row), vs = [.ref a] ∧ SqL K H a ts ∧ All2 (PcAt H) ts r ∧ r.length ≤ 1000000 ∧ ∀ H', Same H H' → Q (.bl (Fh.straight r)) H'
theorem told_straight {r : Fh.Row} {z : ShS} (h : Told r z) : z.st = Fh.straight r := by
  rcases h with ⟨h1, _, g⟩ | ⟨h1, h2⟩
  · rw [h1, (good_straight g).1]
  · have e := h2 []
    rw [List.append_nil] at e
    rw [h1, e]
theorem sc_is_straight : FnScope ["pieces"] ["pieces"] (defScope s_is_straight) := ⟨rfl, rfl, rfl, by decide +kernel, rfl, by decide +kernel, by decide +kernel⟩
theorem ok_is_straight (T : Tx K mg) : OkF P w K mg base 4 "is_straight" ["pieces"] (spStraight K) := by
  refine okf (d := d_is_straight) 22 22 (N := ["pieces"]) T rfl rfl rfl rfl rfl sc_is_straight (fun _ _ _ _ _ _ us hl => match us, hl with | [_], _ => rfl) (fun vs H Q E h => ?_) (fun f cdv A outer s H vs Q E hr h => ?_)
  · obtain ⟨a, ts, r, rfl, hS, al, hl, h⟩ := h
    rfl
  · obtain ⟨a, ts, r, rfl, hS, al, hl, h⟩ := h
    have hu := hu_of hr
    refine ⟨_, (pss_one (ps_ret (pe_fld (pe_callF (ok_shape_of T) (hr.mono (by decide)) (pa_cons (pv 0) pa_nil)) rfl))), ?_⟩
    simp [tSeq, tIfS, tTest, tOp, rEq, rNe, rI0, rI, tVar, tC, tRet, tNext, L2.start, scal_ii, scal_nn, scal_in, scal_ni, scal_bb, line1, line2, line3, line7, tAnd, tOr, tNot, CDiv, CMul, tAsg, gName, tAndV, tOrV, tNotV, tCall, tCons, tNil, tCB, rU, tUn, tIf, tB, cx_K, cx_noxK, rIxL, rIxT, tFld]
    refine ⟨a, ts, r, rfl, hS, al, hl, fun H1 x s1 sh => ?_⟩
    obtain ⟨dx, d, l, q, z, S, td⟩ := sh
    refine ⟨x, rfl, _, _, _, S.ob, T.c_Shape, T.n_Shape_straight, _, shF_straight _ _ _ _, ?_⟩
    rw [told_straight td]
    exact h _ s1
theorem tags_eq (a b : List (Nat × Nat)) : (!(decide ((a.map tk).length = (b.map tk).length) && (a.map tk).all fun k => (b.map tk).any fun j => decide (j = k))) = !decide (a.length = b.length ∧ ∀ q ∈ a, q ∈ b) := by
  congr 1
  rw [Bool.eq_iff_iff, Bool.and_eq_true, decide_eq_true_eq, decide_eq_true_eq, List.length_map, List.length_map, List.all_eq_true]
  refine and_congr_right fun _ => ?_
  constructor
  · intro h q hq
    have z := h (tk q) (List.mem_map_of_mem hq)
    rw [List.any_eq_true] at z
    obtain ⟨j, h1, h2⟩ := z
    obtain ⟨p, h3, h4⟩ := List.mem_map.mp h1
    have e := of_decide_eq_true h2
    rw [← h4] at e
    rw [← tk_inj e]
    exact h3
  · intro h k hk
    obtain ⟨q, h1, h2⟩ := List.mem_map.mp hk
    rw [List.any_eq_true]
    exact ⟨tk q, List.mem_map_of_mem (h q h1), decide_eq_true h2⟩
/-- fits(target, segment), the segment's row straight -/
def spFits (K : PySem.W.Frag) : Sp := fun vs H Q _ => ∃ (a b : Addr) (ts us : List V) (t s : Fh.Row), vs = [.ref a, .ref b] ∧ SqL K H a ts ∧ All2 (PcAt H) ts t ∧ t.length ≤ 1000000 ∧ SqL K H b us ∧ All2 (PcAt H) us s ∧ s.length ≤ 1000000 ∧
  Fh.straight s = true ∧ ∀ H', Same H H' → Q (.bl (Fh.fits s t)) H'
theorem sc_fits : FnScope ["target", "segment", "one", "other"] ["target", "segment"] (defScope s_fits) := ⟨rfl, rfl, rfl, by decide +kernel, rfl, by decide +kernel, by decide +kernel⟩
theorem ok_fits (T : Tx K mg) : OkF P w K mg base 4 "fits" ["target", "segment"] (spFits K) := by
  refine okf (d := d_fits) 23 23 (N := ["target", "segment", "one", "other"]) T rfl rfl rfl rfl rfl sc_fits (fun _ _ _ _ _ _ us hl => match us, hl with | [_, _], _ => rfl) (fun vs H Q E h => ?_) (fun f cdv A outer s H vs Q E hr h => ?_)
  · obtain ⟨a, b, ts, us, t, s', rfl, hS, al, hl, hS', al', hl', hst, h⟩ := h
    rfl
  · obtain ⟨a, b, ts, us, t, s', rfl, hS, al, hl, hS', al', hl', hst, h⟩ := h
    have hu := hu_of hr
    refine ⟨_, (pss_cons (ps_set (i := 2) sc_fits.nd rfl (Or.inl rfl) (pe_callF (ok_shape_of T) (hr.mono (by decide)) (pa_cons (pv 0) pa_nil)))
      (pss_cons (ps_set (i := 3) sc_fits.nd rfl (Or.inl rfl) (pe_callF (ok_shape_of T) (hr.mono (by decide)) (pa_cons (pv 1) pa_nil)))
      (pss_cons (ps_if (PW.pt (pw_or (pt_not (pt_val (pe_fld (pv 2) rfl))) (pw_or1 (pt_cmpR (op_neKeys hu) (pe_fld (pv 2) rfl) (pe_fld (pv 3) rfl) (nomark _))))) (pss_one (ps_ret pe_bl)) pss_nil)
      (pss_one (ps_ret (pe_and (pe_cmpR (op_eqI hr.units) (pe_fld (pv 2) rfl) (pe_fld (pv 3) rfl) (nomark _)) (pe_one (pe_cmpR (op_eqI hr.units) (pe_fld (pv 2) rfl) (pe_fld (pv 3) rfl) (nomark _))))))))), ?_⟩
    simp [tSeq, tIfS, tTest, tOp, rEq, rNe, rI0, rI, tVar, tC, tRet, tNext, L2.start, scal_ii, scal_nn, scal_in, scal_ni, scal_bb, line1, line2, line3, line7, tAnd, tOr, tNot, CDiv, CMul, tAsg, gName, tAndV, tOrV, tNotV, tCall, tCons, tNil, tCB, rU, tUn, tIf, tB, cx_K, cx_noxK, rIxL, rIxT, tFld]
    refine ⟨a, ts, t, rfl, hS, al, hl, fun H1 x s1 sh => ?_⟩
    refine ⟨b, us, s', rfl, s1.seq hS', al'.mono fun _ _ q => q.same s1, hl', fun H2 y s2 sh' => ?_⟩
    obtain ⟨dx, d, l, q, z, S, td⟩ := sh
    obtain ⟨dx', d', l', q', z', S', td'⟩ := sh'
    have S := S.same s2
    have sA := s1.trans s2
    refine ⟨x, rfl, _, _, _, S.ob, T.c_Shape, T.n_Shape_straight, _, shF_straight _ _ _ _, ?_⟩
    rcases td with ⟨e1, e2, g⟩ | ⟨e1, e2⟩
    · rcases td' with ⟨e1', e2', g'⟩ | ⟨_, e2'⟩
      · refine .inr ⟨by rw [e1], x, rfl, _, _, _, S.ob, T.c_Shape, T.n_Shape_tags, _, shF_tags _ _ _ _, y, rfl, _, _, _, S'.ob, T.c_Shape, T.n_Shape_tags, _, shF_tags _ _ _ _, d, d', z.ts.map tk, z'.ts.map tk, rfl, rfl, S.dc, S'.dc, ?_⟩
        rw [tags_eq, e2, e2']
        have fi := fits_iff g' g
        by_cases c : (tgs t).length = (tgs s').length ∧ ∀ p ∈ tgs t, p ∈ tgs s'
        · rw [decide_eq_true c]
          refine .inl ⟨rfl, ?_⟩
          refine ⟨x, rfl, _, _, _, S.ob, T.c_Shape, T.n_Shape_lefts, _, shF_lefts _ _ _ _, y, rfl, _, _, _, S'.ob, T.c_Shape, T.n_Shape_lefts, _, shF_lefts _ _ _ _, l, l', _, _, rfl, rfl, SqL.of S.ll, SqL.of S'.ll, ?_⟩
          have inj : ∀ u v : List Nat, (u.map fun n => ((n : Nat) : Int)) = (v.map fun n => ((n : Nat) : Int)) → u = v := fun u v e => List.map_inj_right (fun _ _ e => Int.ofNat.inj e) |>.mp e
          by_cases c1 : z.ls = z'.ls
          · refine .inr ⟨by rw [c1, decide_eq_true rfl], x, rfl, _, _, _, S.ob, T.c_Shape, T.n_Shape_pile, _, shF_pile _ _ _ _, y, rfl, _, _, _, S'.ob, T.c_Shape, T.n_Shape_pile, _, shF_pile _ _ _ _, q, q', _, _, rfl, rfl, SqL.of S.qq, SqL.of S'.qq, ?_⟩
            have e : decide ((z.ps.map fun n => ((n : Nat) : Int)) = (z'.ps.map fun n => ((n : Nat) : Int))) = Fh.fits s' t := by
              rw [Bool.eq_iff_iff, decide_eq_true_eq, fi]
              exact ⟨fun z => ⟨c, c1, inj _ _ z⟩, fun z => by rw [z.2.2]⟩
            rw [e]
            exact h _ sA
          · refine .inl ⟨by rw [decide_eq_false (fun z => c1 (inj _ _ z))], ?_⟩
            have e : Fh.fits s' t = false := by
              cases q : Fh.fits s' t with
              | false => rfl
              | true => exact absurd (fi.mp q).2.1 c1
            rw [← e]
            exact h _ sA
        · rw [decide_eq_false c]
          refine .inr ⟨rfl, ?_⟩
          have e : Fh.fits s' t = false := by
            cases q : Fh.fits s' t with
            | false => rfl
            | true => exact absurd (fi.mp q).1 c
          rw [← e]
          exact h _ sA
      · have q := e2' []
        rw [List.append_nil, hst] at q
        cases q
    · refine .inl ⟨by rw [e1], ?_⟩
      have q := e2 []
      rw [List.append_nil] at q
      rw [← fits_no (s := s') q]
      exact h _ sA
end
end Fj
set_option Elab.async false
set_option linter.all false
set_option maxRecDepth 100000
set_option maxHeartbeats 4000000
namespace Fj
open PySem PySem.Spec PyProof.Rows L2
open Fh (Bytes Piece)
/-- what a text is refused for -/
def refRow (b : Bytes) (k : Nat) : List Int := match Fh.rowRead b with
  | .error p => [-5, (k : Nat), (p : Nat)]
  | .ok r => if 4096 < r.length then [-6] else []
def refSrc (b : Bytes) : List Int := if refRow b 1 = [] then (match Fh.rowRead b with
  | .ok s => if Fh.straight s = true then [] else [-5, 1, (b.length : Nat)]
  | .error _ => []) else refRow b 1
def refPair (src row : Bytes) : List Int := if refSrc src = [] then (if refRow row 2 = [] then (match Fh.rowRead src, Fh.rowRead row with
  | .ok s, .ok t => if Fh.fits s t = true then [] else [-5, 3, 0]
  | _, _ => []) else refRow row 2) else refSrc src
def refWords (b : Bytes) : List Int := if refRow b 2 = [] then (match Fh.rowRead b with
  | .ok r => if (Fh.tagsOf r).isEmpty = false then [-5, 4, (FhJournals.tagAt r : Nat)] else if r = [] then [-5, 5, 0] else []
  | .error _ => []) else refRow b 2
theorem refRow_nil {b : Bytes} {k : Nat} : refRow b k = [] ↔ ∃ r, Fh.rowRead b = .ok r ∧ r.length ≤ 4096 := by
  unfold refRow
  cases e : Fh.rowRead b with
  | error p => simp
  | ok r =>
    by_cases c : 4096 < r.length
    · simp [c]
    · simp [c]
      omega
theorem refSrc_nil {b : Bytes} : refSrc b = [] ↔ ∃ r, Fh.rowRead b = .ok r ∧ r.length ≤ 4096 ∧ Fh.straight r = true := by
  unfold refSrc
  by_cases c : refRow b 1 = []
  · rw [if_pos c]
    obtain ⟨r, h1, h2⟩ := refRow_nil.mp c
    rw [h1]
    by_cases d : Fh.straight r = true
    · simp [d, h2]
    · simp [d]
  · rw [if_neg c]
    constructor
    · intro z
      exact absurd z c
    · rintro ⟨r, h1, h2, _⟩
      exact absurd (refRow_nil.mpr ⟨r, h1, h2⟩) c
theorem refPair_nil {a b : Bytes} : refPair a b = [] ↔ ∃ s t, Fh.rowRead a = .ok s ∧ s.length ≤ 4096 ∧ Fh.straight s = true ∧ Fh.rowRead b = .ok t ∧ t.length ≤ 4096 ∧ Fh.fits s t = true := by
  unfold refPair
  by_cases c : refSrc a = []
  · rw [if_pos c]
    obtain ⟨s, h1, h2, h3⟩ := refSrc_nil.mp c
    by_cases d : refRow b 2 = []
    · rw [if_pos d]
      obtain ⟨t, k1, k2⟩ := refRow_nil.mp d
      rw [h1, k1]
      by_cases f : Fh.fits s t = true
      · simp [f, h2, h3, k2]
      · simp [f]
    · rw [if_neg d]
      constructor
      · intro z
        exact absurd z d
      · rintro ⟨s, t, _, _, _, k1, k2, _⟩
        exact absurd (refRow_nil.mpr ⟨t, k1, k2⟩) d
  · rw [if_neg c]
    constructor
    · intro z
      exact absurd z c
    · rintro ⟨s, t, h1, h2, h3, _⟩
      exact absurd (refSrc_nil.mpr ⟨s, h1, h2, h3⟩) c
/-- the specification's word on a pair of texts -/
theorem refRow_err {b : Bytes} {k p : Nat} (e : Fh.rowRead b = .error p) : refRow b k = [(-5 : Int), ((k : Nat) : Int), ((p : Nat) : Int)] := by unfold refRow; rw [e]
theorem refRow_big {b : Bytes} {k : Nat} {r : Fh.Row} (e : Fh.rowRead b = .ok r) (c : 4096 < r.length) : refRow b k = [(-6 : Int)] := by unfold refRow; rw [e]; exact if_pos c
theorem refRow_ok {b : Bytes} {k : Nat} {r : Fh.Row} (e : Fh.rowRead b = .ok r) (c : ¬ 4096 < r.length) : refRow b k = [] := by unfold refRow; rw [e]; exact if_neg c
theorem pair_spec (a b : Bytes) : (∃ x, FhJournals.pairGiven a b = .error x ∧ refPair a b = FfNeutral.numbers x ∧ refPair a b ≠ []) ∨
    ∃ q, FhJournals.pairGiven a b = .ok q ∧ refPair a b = [] ∧ Fh.rowRead a = .ok q.1 ∧ Fh.rowRead b = .ok q.2 := by
  cases e : Fh.rowRead a with
  | error p =>
    have hr : refPair a b = [(-5 : Int), 1, ((p : Nat) : Int)] := by simp [refPair, refSrc, refRow_err e]
    exact .inl ⟨FhJournals.bad 1 p, by simp [FhJournals.pairGiven, e], hr.trans rfl, by rw [hr]; simp⟩
  | ok s =>
    by_cases c : 4096 < s.length
    · have hr : refPair a b = [(-6 : Int)] := by simp [refPair, refSrc, refRow_big e c]
      exact .inl ⟨FhJournals.says (-6), by simp [FhJournals.pairGiven, e, Fh.PIECES, c], hr.trans rfl, by rw [hr]; simp⟩
    cases d : Fh.straight s with
    | false =>
      have hr : refPair a b = [(-5 : Int), 1, ((a.length : Nat) : Int)] := by simp [refPair, refSrc, refRow_ok e c, e, d]
      exact .inl ⟨FhJournals.bad 1 a.length, by simp [FhJournals.pairGiven, e, Fh.PIECES, c, d], hr.trans rfl, by rw [hr]; simp⟩
    | true =>
      have hs : refSrc a = [] := by simp [refSrc, refRow_ok e c, e, d]
      cases f : Fh.rowRead b with
      | error p =>
        have hr : refPair a b = [(-5 : Int), 2, ((p : Nat) : Int)] := by simp [refPair, hs, refRow_err f]
        exact .inl ⟨FhJournals.bad 2 p, by simp [FhJournals.pairGiven, e, Fh.PIECES, c, d, f], hr.trans rfl, by rw [hr]; simp⟩
      | ok t =>
        by_cases c2 : 4096 < t.length
        · have hr : refPair a b = [(-6 : Int)] := by simp [refPair, hs, refRow_big f c2]
          exact .inl ⟨FhJournals.says (-6), by simp [FhJournals.pairGiven, e, Fh.PIECES, c, d, f, c2], hr.trans rfl, by rw [hr]; simp⟩
        cases g : Fh.fits s t with
        | false =>
          have hr : refPair a b = [(-5 : Int), 3, 0] := by simp [refPair, hs, refRow_ok f c2, e, f, g]
          exact .inl ⟨FhJournals.bad 3 0, by simp [FhJournals.pairGiven, e, Fh.PIECES, c, d, f, c2, g], hr.trans rfl, by rw [hr]; simp⟩
        | true =>
          have hr : refPair a b = [] := by simp [refPair, hs, refRow_ok f c2, e, f, g]
          exact .inr ⟨(s, t), by simp [FhJournals.pairGiven, e, Fh.PIECES, c, d, f, c2, g], hr, rfl, rfl⟩
theorem words_spec (b : Bytes) : (∃ x, FhJournals.wordsGiven b = .error x ∧ refWords b = FfNeutral.numbers x ∧ refWords b ≠ []) ∨ ∃ r, FhJournals.wordsGiven b = .ok r ∧ refWords b = [] ∧ Fh.rowRead b = .ok r := by
  cases e : Fh.rowRead b with
  | error p =>
    have hr : refWords b = [(-5 : Int), 2, ((p : Nat) : Int)] := by simp [refWords, refRow_err e]
    exact .inl ⟨FhJournals.bad 2 p, by simp [FhJournals.wordsGiven, e], hr.trans rfl, by rw [hr]; simp⟩
  | ok s =>
    by_cases c : 4096 < s.length
    · have hr : refWords b = [(-6 : Int)] := by simp [refWords, refRow_big e c]
      exact .inl ⟨FhJournals.says (-6), by simp [FhJournals.wordsGiven, e, Fh.PIECES, c], hr.trans rfl, by rw [hr]; simp⟩
    cases d : (Fh.tagsOf s).isEmpty with
    | false =>
      have hr : refWords b = [(-5 : Int), 4, ((FhJournals.tagAt s : Nat) : Int)] := by simp only [refWords, refRow_ok e c, e, d, if_pos]
      refine .inl ⟨FhJournals.bad 4 (FhJournals.tagAt s), ?_, hr.trans rfl, by rw [hr]; simp⟩
      simp only [FhJournals.wordsGiven, e, Fh.PIECES, if_neg c, d, if_pos]
    | true =>
      cases s with
      | nil =>
        have hr : refWords b = [(-5 : Int), 5, 0] := by simp [refWords, refRow_ok e c, e, d]
        exact .inl ⟨FhJournals.bad 5 0, by simp [FhJournals.wordsGiven, e, Fh.PIECES, d], hr.trans rfl, by rw [hr]; simp⟩
      | cons x r =>
        have hr : refWords b = [] := by simp only [refWords, refRow_ok e c, e, d]; simp
        refine .inr ⟨x :: r, ?_, hr, rfl⟩
        simp only [FhJournals.wordsGiven, e, Fh.PIECES, if_neg c, d]
        simp
section
variable {P : Program} {w : World} {K : PySem.W.Frag} {mg : Str → Option Value} {base : Heap}
theorem sc_stamp_is_beyond : FnScope ["who", "tick"] ["who", "tick"] (defScope s_stamp_is_beyond) := ⟨rfl, rfl, rfl, by decide +kernel, rfl, by decide +kernel, by decide +kernel⟩
theorem ok_stamp_is_beyond (T : Tx K mg) : OkF P w K mg base 1 "stamp_is_beyond" ["who", "tick"] (spI2 fun m n => .bl (decide (255 < m) || decide (1099511627776 ≤ n))) := by
  refine okf (d := d_stamp_is_beyond) 24 24 (N := ["who", "tick"]) T rfl rfl rfl rfl rfl sc_stamp_is_beyond (fun _ _ _ _ _ _ us hl => match us, hl with | [_, _], _ => rfl) (fun vs H Q E h => ?_) (fun f cdv A outer s H vs Q E hr h => ?_)
  · obtain ⟨m, n, rfl, h⟩ := h
    rfl
  · obtain ⟨m, n, rfl, h⟩ := h
    have hu := hu_of hr
    refine ⟨_, (pss_one (ps_ret (pe_or (pe_cmpR op_gt (pv 0) (pe_gi T.i_LAST_PERSON) (nomark _)) (pe_one (pe_cmpR op_ge (pv 1) (pe_gi T.i_TICKS) (nomark _)))))), ?_⟩
    simp [tSeq, tIfS, tTest, tOp, rEq, rNe, rI0, rI, tVar, tC, tRet, tNext, L2.start, scal_ii, scal_nn, scal_in, scal_ni, scal_bb, line1, line2, line3, line7, tAnd, tOr, tNot, CDiv, CMul, tAsg, gName, tAndV, tOrV, tNotV, tCall, tCons, tNil, tCB, rU, tUn, tIf, tB, cx_K, cx_noxK, rIxL, rIxT]
    by_cases c : 255 < m
    · simp only [c, decide_true, Bool.true_or] at h
      rw [if_pos c]
      exact h
    · simp only [c, decide_false, Bool.false_or] at h
      rw [if_neg c]
      exact h
theorem sc_stamp_number_is_beyond : FnScope ["stamp"] ["stamp"] (defScope s_stamp_number_is_beyond) := ⟨rfl, rfl, rfl, by decide +kernel, rfl, by decide +kernel, by decide +kernel⟩
theorem ok_stamp_number_is_beyond (T : Tx K mg) : OkF P w K mg base 1 "stamp_number_is_beyond" ["stamp"] (spI1 fun n => .bl (decide (281474976710656 ≤ n))) := by
  refine okf (d := d_stamp_number_is_beyond) 25 25 (N := ["stamp"]) T rfl rfl rfl rfl rfl sc_stamp_number_is_beyond (fun _ _ _ _ _ _ us hl => match us, hl with | [_], _ => rfl) (fun vs H Q E h => ?_) (fun f cdv A outer s H vs Q E hr h => ?_)
  · obtain ⟨n, rfl, h⟩ := h
    rfl
  · obtain ⟨n, rfl, h⟩ := h
    have hu := hu_of hr
    refine ⟨_, (pss_one (ps_ret (pe_cmpR op_ge (pv 0) (pe_gi T.i_STAMPS) (nomark _)))), ?_⟩
    simp [tSeq, tIfS, tTest, tOp, rEq, rNe, rI0, rI, tVar, tC, tRet, tNext, L2.start, scal_ii, scal_nn, scal_in, scal_ni, scal_bb, line1, line2, line3, line7, tAnd, tOr, tNot, CDiv, CMul, tAsg, gName, tAndV, tOrV, tNotV, tCall, tCons, tNil, tCB, rU, tUn, tIf, tB, cx_K, cx_noxK, rIxL, rIxT]
    exact h
theorem sc_document_is_beyond : FnScope ["doc"] ["doc"] (defScope s_document_is_beyond) := ⟨rfl, rfl, rfl, by decide +kernel, rfl, by decide +kernel, by decide +kernel⟩
theorem ok_document_is_beyond (T : Tx K mg) : OkF P w K mg base 1 "document_is_beyond" ["doc"] (spI1 fun n => .bl (decide (15 < n))) := by
  refine okf (d := d_document_is_beyond) 26 26 (N := ["doc"]) T rfl rfl rfl rfl rfl sc_document_is_beyond (fun _ _ _ _ _ _ us hl => match us, hl with | [_], _ => rfl) (fun vs H Q E h => ?_) (fun f cdv A outer s H vs Q E hr h => ?_)
  · obtain ⟨n, rfl, h⟩ := h
    rfl
  · obtain ⟨n, rfl, h⟩ := h
    have hu := hu_of hr
    refine ⟨_, (pss_one (ps_ret (pe_cmpR op_gt (pv 0) (pe_gi T.i_LAST_DOCUMENT) (nomark _)))), ?_⟩
    simp [tSeq, tIfS, tTest, tOp, rEq, rNe, rI0, rI, tVar, tC, tRet, tNext, L2.start, scal_ii, scal_nn, scal_in, scal_ni, scal_bb, line1, line2, line3, line7, tAnd, tOr, tNot, CDiv, CMul, tAsg, gName, tAndV, tOrV, tNotV, tCall, tCons, tNil, tCB, rU, tUn, tIf, tB, cx_K, cx_noxK, rIxL, rIxT]
    exact h
theorem sc_name_is_beyond : FnScope ["doc", "seg"] ["doc", "seg"] (defScope s_name_is_beyond) := ⟨rfl, rfl, rfl, by decide +kernel, rfl, by decide +kernel, by decide +kernel⟩
theorem ok_name_is_beyond (T : Tx K mg) : OkF P w K mg base 2 "name_is_beyond" ["doc", "seg"] (spI2 fun m n => .bl (decide (15 < m) || decide (65535 < n))) := by
  refine okf (d := d_name_is_beyond) 27 27 (N := ["doc", "seg"]) T rfl rfl rfl rfl rfl sc_name_is_beyond (fun _ _ _ _ _ _ us hl => match us, hl with | [_, _], _ => rfl) (fun vs H Q E h => ?_) (fun f cdv A outer s H vs Q E hr h => ?_)
  · obtain ⟨m, n, rfl, h⟩ := h
    rfl
  · obtain ⟨m, n, rfl, h⟩ := h
    have hu := hu_of hr
    refine ⟨_, (pss_one (ps_ret (pe_or (pe_callF (ok_document_is_beyond T) (hr.mono (by decide)) (pa_cons (pv 0) pa_nil)) (pe_one (pe_cmpR op_gt (pv 1) (pe_gi T.i_LAST_SEGMENT) (nomark _)))))), ?_⟩
    simp [tSeq, tIfS, tTest, tOp, rEq, rNe, rI0, rI, tVar, tC, tRet, tNext, L2.start, scal_ii, scal_nn, scal_in, scal_ni, scal_bb, line1, line2, line3, line7, tAnd, tOr, tNot, CDiv, CMul, tAsg, gName, tAndV, tOrV, tNotV, tCall, tCons, tNil, tCB, rU, tUn, tIf, tB, cx_K, cx_noxK, rIxL, rIxT, spI1]
    by_cases c : 15 < m
    · simp only [c, decide_true, Bool.true_or] at h
      rw [if_pos c]
      exact h
    · simp only [c, decide_false, Bool.false_or] at h
      rw [if_neg c]
      exact h
def spLong (K : PySem.W.Frag) : Sp := fun vs H Q _ => ∃ (a : Addr) (xs : List V), vs = [.ref a] ∧ SqL K H a xs ∧ Q (.bl (decide (65536 < xs.length))) H
theorem sc_text_is_beyond : FnScope ["text"] ["text"] (defScope s_text_is_beyond) := ⟨rfl, rfl, rfl, by decide +kernel, rfl, by decide +kernel, by decide +kernel⟩
theorem ok_text_is_beyond (T : Tx K mg) : OkF P w K mg base 1 "text_is_beyond" ["text"] (spLong K) := by
  refine okf (d := d_text_is_beyond) 28 28 (N := ["text"]) T rfl rfl rfl rfl rfl sc_text_is_beyond (fun _ _ _ _ _ _ us hl => match us, hl with | [_], _ => rfl) (fun vs H Q E h => ?_) (fun f cdv A outer s H vs Q E hr h => ?_)
  · obtain ⟨a, xs, rfl, hS, h⟩ := h
    rfl
  · obtain ⟨a, xs, rfl, hS, h⟩ := h
    have hu := hu_of hr
    refine ⟨_, (pss_one (ps_ret (pe_cmpR op_gt (pe_callB call_len_seq (by rfl) T.b_len PySem.boot_len (pa_cons (pv 0) pa_nil)) (pe_gi T.i_LONGEST_TEXT) (nomark _)))), ?_⟩
    simp [tSeq, tIfS, tTest, tOp, rEq, rNe, rI0, rI, tVar, tC, tRet, tNext, L2.start, scal_ii, scal_nn, scal_in, scal_ni, scal_bb, line1, line2, line3, line7, tAnd, tOr, tNot, CDiv, CMul, tAsg, gName, tAndV, tOrV, tNotV, tCall, tCons, tNil, tCB, rU, tUn, tIf, tB, cx_K, cx_noxK, rIxL, rIxT]
    refine ⟨_, .inl hS, ?_⟩
    have e : decide ((65536 : Int) < (xs.length : Nat)) = decide (65536 < xs.length) := by
      rw [Bool.eq_iff_iff, decide_eq_true_eq, decide_eq_true_eq]
      omega
    rw [← e] at h
    exact h
theorem sc_is_no_journal : FnScope ["j"] ["j"] (defScope s_is_no_journal) := ⟨rfl, rfl, rfl, by decide +kernel, rfl, by decide +kernel, by decide +kernel⟩
theorem ok_is_no_journal (T : Tx K mg) : OkF P w K mg base 1 "is_no_journal" ["j"] (spI1 fun n => .bl (decide (2 < n))) := by
  refine okf (d := d_is_no_journal) 29 29 (N := ["j"]) T rfl rfl rfl rfl rfl sc_is_no_journal (fun _ _ _ _ _ _ us hl => match us, hl with | [_], _ => rfl) (fun vs H Q E h => ?_) (fun f cdv A outer s H vs Q E hr h => ?_)
  · obtain ⟨n, rfl, h⟩ := h
    rfl
  · obtain ⟨n, rfl, h⟩ := h
    have hu := hu_of hr
    refine ⟨_, (pss_one (ps_ret (pe_cmpR op_gt (pv 0) (pe_gi T.i_LAST_JOURNAL) (nomark _)))), ?_⟩
    simp [tSeq, tIfS, tTest, tOp, rEq, rNe, rI0, rI, tVar, tC, tRet, tNext, L2.start, scal_ii, scal_nn, scal_in, scal_ni, scal_bb, line1, line2, line3, line7, tAnd, tOr, tNot, CDiv, CMul, tAsg, gName, tAndV, tOrV, tNotV, tCall, tCons, tNil, tCB, rU, tUn, tIf, tB, cx_K, cx_noxK, rIxL, rIxT]
    exact h
theorem sc_are_no_two_journals : FnScope ["j", "other"] ["j", "other"] (defScope s_are_no_two_journals) := ⟨rfl, rfl, rfl, by decide +kernel, rfl, by decide +kernel, by decide +kernel⟩
theorem ok_are_no_two_journals (T : Tx K mg) : OkF P w K mg base 2 "are_no_two_journals" ["j", "other"] (spI2 fun m n => .bl (decide (2 < m) || (decide (2 < n) || decide (m = n)))) := by
  refine okf (d := d_are_no_two_journals) 30 30 (N := ["j", "other"]) T rfl rfl rfl rfl rfl sc_are_no_two_journals (fun _ _ _ _ _ _ us hl => match us, hl with | [_, _], _ => rfl) (fun vs H Q E h => ?_) (fun f cdv A outer s H vs Q E hr h => ?_)
  · obtain ⟨m, n, rfl, h⟩ := h
    rfl
  · obtain ⟨m, n, rfl, h⟩ := h
    have hu := hu_of hr
    refine ⟨_, (pss_one (ps_ret (pe_or (pe_callF (ok_is_no_journal T) (hr.mono (by decide)) (pa_cons (pv 0) pa_nil)) (pe_or (pe_callF (ok_is_no_journal T) (hr.mono (by decide)) (pa_cons (pv 1) pa_nil)) (pe_one (pe_cmpR op_eq (pv 0) (pv 1) (nomark _))))))), ?_⟩
    simp [tSeq, tIfS, tTest, tOp, rEq, rNe, rI0, rI, tVar, tC, tRet, tNext, L2.start, scal_ii, scal_nn, scal_in, scal_ni, scal_bb, line1, line2, line3, line7, tAnd, tOr, tNot, CDiv, CMul, tAsg, gName, tAndV, tOrV, tNotV, tCall, tCons, tNil, tCB, rU, tUn, tIf, tB, cx_K, cx_noxK, rIxL, rIxT, spI1]
    by_cases c : 2 < m
    · simp only [c, decide_true, Bool.true_or] at h
      rw [if_pos c]
      exact h
    · simp only [c, decide_false, Bool.false_or] at h
      rw [if_neg c]
      by_cases d : 2 < n
      · simp only [d, decide_true, Bool.true_or] at h
        rw [if_pos d]
        exact h
      · simp only [d, decide_false, Bool.false_or] at h
        rw [if_neg d]
        exact h
/-- gives a new list of these numbers -/
def Gives (H : Hp) (l : List Int) (Q : VK) : Prop := ∀ H' p, Same H H' → H p = none → H' p = some (.lst (l.map V.int)) → Q (.ref p) H'
def spRowRef (K : PySem.W.Frag) : Sp := fun vs H Q _ => ∃ (x a : Addr) (b : Bytes) (k : Nat), vs = [.ref x, .int (k : Nat)] ∧ ReadAt K H x a b ∧ b.length ≤ 1000000 ∧ Gives H (refRow b k) Q
theorem sc_row_refusal : FnScope ["reading", "kind"] ["reading", "kind"] (defScope s_row_refusal) := ⟨rfl, rfl, rfl, by decide +kernel, rfl, by decide +kernel, by decide +kernel⟩
theorem ok_row_refusal (T : Tx K mg) : OkF P w K mg base 1 "row_refusal" ["reading", "kind"] (spRowRef K) := by
  refine okf (d := d_row_refusal) 31 31 (N := ["reading", "kind"]) T rfl rfl rfl rfl rfl sc_row_refusal (fun _ _ _ _ _ _ us hl => match us, hl with | [_, _], _ => rfl) (fun vs H Q E h => ?_) (fun f cdv A outer s H vs Q E hr h => ?_)
  · obtain ⟨x, a, b, k, rfl, R, hb, h⟩ := h
    rfl
  · obtain ⟨x, a, b, k, rfl, R, hb, h⟩ := h
    have hu := hu_of hr
    refine ⟨_, (pss_cons (ps_if (pt_cmpR op_notN (pe_fld (pv 0) rfl) pe_non (nomark _)) (pss_one (ps_ret (pe_lst (pa_cons (pe_un un_neg pe_int) (pa_cons (pv 1) (pa_cons (pe_fld (pv 0) rfl) pa_nil)))))) pss_nil)
      (pss_cons (ps_if (pt_cmpR op_gt (pe_callB call_len_seq (by rfl) T.b_len PySem.boot_len (pa_cons (pe_fld (pv 0) rfl) pa_nil)) (pe_gi T.i_LONGEST_ROW) (nomark _)) (pss_one (ps_ret (pe_lst (pa_cons (pe_un un_neg pe_int) pa_nil)))) pss_nil)
      (pss_one (ps_ret (pe_lst pa_nil))))), ?_⟩
    simp [tSeq, tIfS, tTest, tOp, rEq, rNe, rI0, rI, tVar, tC, tRet, tNext, L2.start, scal_ii, scal_nn, scal_in, scal_ni, scal_bb, line1, line2, line3, line7, tAnd, tOr, tNot, CDiv, CMul, tAsg, gName, tAndV, tOrV, tNotV, tCall, tCons, tNil, tCB, rU, tUn, tIf, tB, cx_K, cx_noxK, rIxL, rIxT, tFld, tLst]
    obtain ⟨dx, l1, l2, ts, ss, fl, h1, h2, h3, h4⟩ := R.ex
    refine ⟨_, _, _, h1, T.c_Reading, T.n_Reading_fault, _, rdF_fault _ _ _ _, ?_⟩
    cases e : Fh.rowRead b with
    | error p =>
      rw [e] at h4
      simp only at h4
      subst h4
      refine .inr ⟨(by intro z; cases z), _, _, _, h1, T.c_Reading, T.n_Reading_fault, _, rdF_fault _ _ _ _, fun l hl => h _ _ (same_upd hl) hl ?_⟩
      rw [refRow_err e]
      exact upd_same
    | ok r =>
      rw [e] at h4
      obtain ⟨rfl, al, _⟩ := h4
      refine .inl ⟨rfl, _, _, _, h1, T.c_Reading, T.n_Reading_pieces, _, rdF_pieces _ _ _ _, l1, rfl, _, .inl (SqL.of h2), ?_⟩
      rw [al.len]
      by_cases c : 4096 < r.length
      · rw [if_pos (by omega)]
        intro l hl
        refine h _ _ (same_upd hl) hl ?_
        rw [refRow_big e c]
        exact upd_same
      · rw [if_neg (by omega)]
        intro l hl
        refine h _ _ (same_upd hl) hl ?_
        rw [refRow_ok e c]
        exact upd_same
def spSrcRef (K : PySem.W.Frag) : Sp := fun vs H Q _ => ∃ (x a : Addr) (b : Bytes), vs = [.ref x] ∧ ReadAt K H x a b ∧ SqL K H a (bv b) ∧ b.length ≤ 1000000 ∧ Gives H (refSrc b) Q
theorem sc_source_refusal : FnScope ["source", "refusal"] ["source"] (defScope s_source_refusal) := ⟨rfl, rfl, rfl, by decide +kernel, rfl, by decide +kernel, by decide +kernel⟩
theorem ok_source_refusal (T : Tx K mg) : OkF P w K mg base 5 "source_refusal" ["source"] (spSrcRef K) := by
  refine okf (d := d_source_refusal) 32 32 (N := ["source", "refusal"]) T rfl rfl rfl rfl rfl sc_source_refusal (fun _ _ _ _ _ _ us hl => match us, hl with | [_], _ => rfl) (fun vs H Q E h => ?_) (fun f cdv A outer s H vs Q E hr h => ?_)
  · obtain ⟨x, a, b, rfl, R, hS, hb, h⟩ := h
    rfl
  · obtain ⟨x, a, b, rfl, R, hS, hb, h⟩ := h
    have hu := hu_of hr
    refine ⟨_, (pss_cons (ps_set (i := 1) sc_source_refusal.nd rfl (Or.inl rfl) (pe_callF (ok_row_refusal T) (hr.mono (by decide)) (pa_cons (pv 0) (pa_cons pe_int pa_nil))))
      (pss_cons (ps_if (PW.pt (pw_and (pt_cmpR (op_eqI hr.units) (pv 1) (pe_lst pa_nil) (nomark _)) (pw_and1 (pt_not (pt_val (pe_callF (ok_is_straight T) (hr.mono (by decide)) (pa_cons (pe_fld (pv 0) rfl) pa_nil))))))) (pss_one (ps_ret (pe_lst (pa_cons (pe_un un_neg pe_int) (pa_cons pe_int (pa_cons (pe_callB call_len_seq (by rfl) T.b_len PySem.boot_len (pa_cons (pe_fld (pv 0) rfl) pa_nil)) pa_nil)))))) pss_nil)
      (pss_one (ps_ret (pv 1))))), ?_⟩
    simp [tSeq, tIfS, tTest, tOp, rEq, rNe, rI0, rI, tVar, tC, tRet, tNext, L2.start, scal_ii, scal_nn, scal_in, scal_ni, scal_bb, line1, line2, line3, line7, tAnd, tOr, tNot, CDiv, CMul, tAsg, gName, tAndV, tOrV, tNotV, tCall, tCons, tNil, tCB, rU, tUn, tIf, tB, cx_K, cx_noxK, rIxL, rIxT, tFld, tLst, rEqI]
    refine ⟨x, a, b, 1, rfl, R, hb, fun H1 l s1 nl hl => ?_⟩
    have R1 := R.same s1
    refine fun p hp => ⟨l, rfl, _, SqL.of (same_upd hp _ _ hl), [], SqL.of upd_same, ?_⟩
    have s2 := s1.trans (same_upd (o := .lst []) hp)
    have R2 := R.same s2
    by_cases c : refRow b 1 = []
    · rw [if_pos c]
      obtain ⟨r, e1, e2⟩ := refRow_nil.mp c
      obtain ⟨dx, l1, l2, ts, ss, fl, h1, h2, h3, h4⟩ := R2.ex
      rw [e1] at h4
      obtain ⟨rfl, al, _⟩ := h4
      refine ⟨_, _, _, h1, T.c_Reading, T.n_Reading_pieces, _, rdF_pieces _ _ _ _, l1, ts, r, rfl, SqL.of h2, al, by omega, fun H3 s3 => ?_⟩
      cases d : Fh.straight r with
      | true =>
        refine .inr ⟨rfl, h _ _ (s2.trans s3) nl ?_⟩
        have e : refSrc b = [] := refSrc_nil.mpr ⟨r, e1, e2, d⟩
        rw [e, s3 _ _ (same_upd hp _ _ hl), c]
      | false =>
        refine .inl ⟨rfl, _, _, _, s3 _ _ h1, T.c_Reading, T.n_Reading_text, _, rdF_text _ _ _ _, a, rfl, _, .inl ((s2.trans s3).seq hS), fun q hq => h _ _ ((s2.trans s3).trans (same_upd hq)) ((s2.trans s3).free hq) ?_⟩
        have e : refSrc b = [(-5 : Int), 1, ((b.length : Nat) : Int)] := by unfold refSrc; rw [if_pos c, e1]; simp [d]
        rw [e, upd_same, bv_len]
        rfl
    · rw [if_neg c]
      refine h _ _ s2 nl ?_
      have e : refSrc b = refRow b 1 := if_neg c
      rw [e]
      exact same_upd hp _ _ hl
def spPairRef (K : PySem.W.Frag) : Sp := fun vs H Q _ => ∃ (x a : Addr) (b : Bytes) (y c : Addr) (d : Bytes), vs = [.ref x, .ref y] ∧ ReadAt K H x a b ∧ SqL K H a (bv b) ∧ b.length ≤ 1000000 ∧ ReadAt K H y c d ∧ d.length ≤ 1000000 ∧ Gives H (refPair b d) Q
theorem sc_target_refusal : FnScope ["source", "row", "refusal"] ["source", "row"] (defScope s_target_refusal) := ⟨rfl, rfl, rfl, by decide +kernel, rfl, by decide +kernel, by decide +kernel⟩
theorem ok_target_refusal (T : Tx K mg) : OkF P w K mg base 6 "target_refusal" ["source", "row"] (spPairRef K) := by
  refine okf (d := d_target_refusal) 33 33 (N := ["source", "row", "refusal"]) T rfl rfl rfl rfl rfl sc_target_refusal (fun _ _ _ _ _ _ us hl => match us, hl with | [_, _], _ => rfl) (fun vs H Q E h => ?_) (fun f cdv A outer s H vs Q E hr h => ?_)
  · obtain ⟨x, a, b, y, c, d, rfl, R, hS, hb, R', hd, h⟩ := h
    rfl
  · obtain ⟨x, a, b, y, c, d, rfl, R, hS, hb, R', hd, h⟩ := h
    have hu := hu_of hr
    refine ⟨_, (pss_cons (ps_set (i := 2) sc_target_refusal.nd rfl (Or.inl rfl) (pe_callF (ok_source_refusal T) (hr.mono (by decide)) (pa_cons (pv 0) pa_nil)))
      (pss_mid (ps_if (pt_cmpR (op_eqI hr.units) (pv 2) (pe_lst pa_nil) (nomark _)) (pss_one (ps_set (i := 2) sc_target_refusal.nd rfl (Or.inl rfl) (pe_callF (ok_row_refusal T) (hr.mono (by decide)) (pa_cons (pv 1) (pa_cons pe_int pa_nil))))) pss_nil)
      (pss_cons (ps_if (PW.pt (pw_and (pt_cmpR (op_eqI hr.units) (pv 2) (pe_lst pa_nil) (nomark _)) (pw_and1 (pt_not (pt_val (pe_callF (ok_fits T) (hr.mono (by decide)) (pa_cons (pe_fld (pv 1) rfl) (pa_cons (pe_fld (pv 0) rfl) pa_nil)))))))) (pss_one (ps_ret (pe_lst (pa_cons (pe_un un_neg pe_int) (pa_cons pe_int (pa_cons pe_int pa_nil)))))) pss_nil)
      (pss_one (ps_ret (pv 2)))))), ?_⟩
    simp [tSeq, tIfS, tTest, tOp, rEq, rNe, rI0, rI, tVar, tC, tRet, tNext, L2.start, scal_ii, scal_nn, scal_in, scal_ni, scal_bb, line1, line2, line3, line7, tAnd, tOr, tNot, CDiv, CMul, tAsg, gName, tAndV, tOrV, tNotV, tCall, tCons, tNil, tCB, rU, tUn, tIf, tB, cx_K, cx_noxK, rIxL, rIxT]
    refine ⟨x, a, b, rfl, R, hS, hb, fun H1 l s1 nl hl => ?_⟩
    refine ⟨fun σ H2 => ∃ (p : Addr) (v : List Int), σ = [some (.ref x), some (.ref y), some (.ref p)] ∧ Same H H2 ∧ H p = none ∧ H2 p = some (.lst (v.map V.int)) ∧ v = (if refSrc b = [] then refRow d 2 else refSrc b), ?_, ?_⟩
    · simp [tSeq, tIfS, tTest, tOp, rEq, rNe, rI0, rI, tVar, tC, tRet, tNext, L2.start, scal_ii, scal_nn, scal_in, scal_ni, scal_bb, line1, line2, line3, line7, tAnd, tOr, tNot, CDiv, CMul, tAsg, gName, tAndV, tOrV, tNotV, tCall, tCons, tNil, tCB, rU, tUn, tIf, tB, cx_K, cx_noxK, rIxL, rIxT, tLst, rEqI]
      refine fun p hp => ⟨_, SqL.of (same_upd hp _ _ hl), [], SqL.of upd_same, ?_⟩
      have s2 := s1.trans (same_upd (o := .lst []) hp)
      by_cases e : refSrc b = []
      · rw [if_pos e]
        refine ⟨y, c, d, 2, rfl, R'.same s2, hd, fun H3 q s3 nq hq => ⟨q, rfl, s2.trans s3, s2.free nq, ?_⟩⟩
        rw [if_pos e]
        exact hq
      · rw [if_neg e]
        refine ⟨s2, nl, ?_⟩
        rw [if_neg e]
        exact same_upd hp _ _ hl
    · rintro σ H2 ⟨p, v, rfl, s2, np, hp, hv⟩
      simp [tSeq, tIfS, tTest, tOp, rEq, rNe, rI0, rI, tVar, tC, tRet, tNext, L2.start, scal_ii, scal_nn, scal_in, scal_ni, scal_bb, line1, line2, line3, line7, tAnd, tOr, tNot, CDiv, CMul, tAsg, gName, tAndV, tOrV, tNotV, tCall, tCons, tNil, tCB, rU, tUn, tIf, tB, cx_K, cx_noxK, rIxL, rIxT, tFld, tLst, rEqI]
      refine fun q hq => ⟨_, SqL.of (same_upd hq _ _ hp), [], SqL.of upd_same, ?_⟩
      have s3 := s2.trans (same_upd (o := .lst []) hq)
      have hp3 := same_upd (o := .lst []) hq _ _ hp
      by_cases e0 : v = []
      · rw [if_pos e0]
        have es : refSrc b = [] := by
          by_cases q : refSrc b = []
          · exact q
          · rw [if_neg q] at hv
            rw [← hv]
            exact e0
        have er : refRow d 2 = [] := by
          rw [if_pos es] at hv
          rw [← hv]
          exact e0
        obtain ⟨s', k1, k2, k3⟩ := refSrc_nil.mp es
        obtain ⟨t, k4, k5⟩ := refRow_nil.mp er
        obtain ⟨dx, l1, l2, ts, ss, fl, g1, g2, g3, g4⟩ := (R.same s3).ex
        obtain ⟨dx', l1', l2', ts', ss', fl', g1', g2', g3', g4'⟩ := (R'.same s3).ex
        rw [k1] at g4
        rw [k4] at g4'
        obtain ⟨rfl, al, _⟩ := g4
        obtain ⟨rfl, al', _⟩ := g4'
        refine ⟨_, _, _, g1', T.c_Reading, T.n_Reading_pieces, _, rdF_pieces _ _ _ _, _, _, _, g1, T.c_Reading, T.n_Reading_pieces, _, rdF_pieces _ _ _ _, l1', l1, ts', ts, t, s', rfl, SqL.of g2', al', by omega, SqL.of g2, al, by omega, k3, fun H4 s4 => ?_⟩
        have e : refPair b d = if Fh.fits s' t = true then [] else [(-5 : Int), 3, 0] := by simp [refPair, es, er, k1, k4]
        cases f : Fh.fits s' t with
        | true =>
          refine .inr ⟨rfl, h _ _ (s3.trans s4) np ?_⟩
          rw [f, if_pos rfl] at e
          rw [e, s4 _ _ hp3, e0]
        | false =>
          refine .inl ⟨rfl, fun u hu' => h _ _ ((s3.trans s4).trans (same_upd hu')) ((s3.trans s4).free hu') ?_⟩
          rw [f, if_neg (by decide)] at e
          rw [e, upd_same]
          rfl
      · rw [if_neg e0]
        refine h _ _ s3 np ?_
        have e : refPair b d = v := by
          unfold refPair
          by_cases q : refSrc b = []
          · rw [if_pos q] at hv ⊢
            rw [if_neg (by rw [← hv]; exact e0), hv]
          · rw [if_neg q] at hv ⊢
            exact hv.symm
        rw [e]
        exact hp3
/-! ### a list of pieces and an empty list -/
def pcData (x : Piece) : PyData := .tuple [.int (kindOf x), .int ((numOf x : Nat) : Int)]
theorem dp_pcs {H : Hp} : ∀ {ts : List V} {r : Fh.Row}, All2 (PcAt H) ts r → DpAll K H ts (r.map pcData)
  | _, _, .nil => .nil
  | _, _, .cons h t => by
    obtain ⟨p, rfl, hp⟩ := h
    exact .cons (.tup (SqT.of hp) (.cons (.int _) (.cons (.int _) .nil))) (dp_pcs t)
theorem pc_canLay : ∀ r : Fh.Row, PyData.canLayAll0 (r.map pcData) = true
  | [] => by simp [PyData.canLayAll0]
  | x :: r => by simp [PyData.canLayAll0, pcData, PyData.canLay0, pc_canLay r]
theorem pc_depth : ∀ r : Fh.Row, PyData.depthAll (r.map pcData) ≤ 4
  | [] => by simp [PyData.depthAll]
  | x :: r => by
    have := pc_depth r
    simp only [List.map_cons, PyData.depthAll, pcData, PyData.depth]
    omega
theorem pc_shaped (r : Fh.Row) : SeqAt.shaped (.list (r.map pcData)) = true := by
  unfold SeqAt.shaped
  rw [Bool.and_eq_true, decide_eq_true_eq]
  refine ⟨by simp only [PyData.canLay0]; exact pc_canLay r, ?_⟩
  have := pc_depth r
  simp only [PyData.depth]
  omega
theorem pc_nil (r : Fh.Row) : PyData.eqv (.list (r.map pcData)) (.list []) = decide (r = []) := by
  cases r with
  | nil => simp [PyData.eqv, PyData.eqvAll]
  | cons x r => simp [PyData.eqv, PyData.eqvAll]
def spWordsRef (K : PySem.W.Frag) : Sp := fun vs H Q _ => ∃ (x a : Addr) (b : Bytes), vs = [.ref x] ∧ ReadAt K H x a b ∧ b.length ≤ 1000000 ∧ Gives H (refWords b) Q
theorem starts_at : ∀ (r : Fh.Row) (p i : Nat), i < r.length → (startsOf p r)[i]? = some (.int ((p + (Fh.rowText (r.take i)).length : Nat) : Int))
  | x :: r, p, 0, _ => rfl
  | x :: r, p, i + 1, h => by
    show (startsOf (p + x.text.length) r)[i]? = _
    rw [starts_at r _ i (Nat.lt_of_succ_lt_succ h)]
    have e : Fh.rowText ((x :: r).take (i + 1)) = x.text ++ Fh.rowText (r.take i) := rfl
    rw [e, List.length_append, Nat.add_assoc]
theorem tag_first {r : Fh.Row} {i : Nat} {x : Piece} (h : ∀ y ∈ r.take i, y.isTag = false) (hx : r[i]? = some x) (ht : x.isTag = true) : FhJournals.tagAt r = (Fh.rowText (r.take i)).length ∧ (Fh.tagsOf r).isEmpty = false := by
  obtain ⟨hi, e⟩ := List.getElem?_eq_some_iff.mp hx
  have ed : r = r.take i ++ x :: r.drop (i + 1) := by
    rw [← e, ← List.drop_eq_getElem_cons hi, List.take_append_drop]
  constructor
  · unfold FhJournals.tagAt
    congr 2
    conv => lhs; rw [ed]
    rw [List.takeWhile_append_of_pos (by intro y hy; simp [h y hy]), List.takeWhile_cons]
    simp [ht]
  · unfold Fh.tagsOf
    rw [ed, List.filter_append, List.filter_cons, if_pos ht]
    simp
theorem tag_none {r : Fh.Row} (h : ∀ y ∈ r, y.isTag = false) : (Fh.tagsOf r).isEmpty = true := by
  unfold Fh.tagsOf
  rw [List.isEmpty_iff, List.filter_eq_nil_iff]
  intro y hy
  simp [h y hy]
theorem isTag_kind (x : Piece) : x.isTag = !decide (kindOf x = 0) := by cases x <;> rfl
theorem sc_remark_refusal : FnScope ["row", "refusal", "place", "piece"] ["row"] (defScope s_remark_refusal) := ⟨rfl, rfl, rfl, by decide +kernel, rfl, by decide +kernel, by decide +kernel⟩
theorem ok_remark_refusal (T : Tx K mg) : OkF P w K mg base 2 "remark_refusal" ["row"] (spWordsRef K) := by
  refine okf (d := d_remark_refusal) 34 34 (N := ["row", "refusal", "place", "piece"]) T rfl rfl rfl rfl rfl sc_remark_refusal (fun _ _ _ _ _ _ us hl => match us, hl with | [_], _ => rfl) (fun vs H Q E h => ?_) (fun f cdv A outer s H vs Q E hr h => ?_)
  · obtain ⟨x, a, b, rfl, R, hb, h⟩ := h
    rfl
  · obtain ⟨x, a, b, rfl, R, hb, h⟩ := h
    have hu := hu_of hr
    refine ⟨_, (pss_cons (ps_set (i := 1) sc_remark_refusal.nd rfl (Or.inl rfl) (pe_callF (ok_row_refusal T) (hr.mono (by decide)) (pa_cons (pv 0) (pa_cons pe_int pa_nil))))
      (pss_cons (ps_if (pt_cmpR (op_neI hr.units) (pv 1) (pe_lst pa_nil) (nomark _)) (pss_one (ps_ret (pv 1))) pss_nil)
      (pss_cons (ps_for PassesOwn.never rfl (pi_zip (by rfl) T.b_zip (pa_cons (pe_fld (pv 0) rfl) (pa_cons (pe_fld (pv 0) rfl) pa_nil))) (pg_tup rfl (pgs_cons (pg_name (i := 2) sc_remark_refusal.nd rfl (Or.inl rfl)) (pgs_cons (pg_name (i := 3) sc_remark_refusal.nd rfl (Or.inl rfl)) pgs_nil)))
        (pss_one (ps_if (pt_cmpR op_ne (pe_ix ix_tup (pv 3) pe_int (fun _ _ => rfl)) (pe_gi T.i_CHARACTER) (nomark _)) (pss_one (ps_ret (pe_lst (pa_cons (pe_un un_neg pe_int) (pa_cons pe_int (pa_cons (pv 2) pa_nil)))))) pss_nil)))
      (pss_cons (ps_if (pt_cmpR (op_eqD hr.units) (pe_fld (pv 0) rfl) (pe_lst pa_nil) (nomark _)) (pss_one (ps_ret (pe_lst (pa_cons (pe_un un_neg pe_int) (pa_cons pe_int (pa_cons pe_int pa_nil)))))) pss_nil)
      (pss_one (ps_ret (pe_lst pa_nil))))))), ?_⟩
    simp [tSeq, tIfS, tTest, tOp, rEq, rNe, rI0, rI, tVar, tC, tRet, tNext, L2.start, scal_ii, scal_nn, scal_in, scal_ni, scal_bb, line1, line2, line3, line7, tAnd, tOr, tNot, CDiv, CMul, tAsg, gName, tAndV, tOrV, tNotV, tCall, tCons, tNil, tCB, rU, tUn, tIf, tB, cx_K, cx_noxK, rIxL, rIxT, tLst, rNeI]
    refine ⟨x, a, b, 2, rfl, R, hb, fun H1 l s1 nl hl => ?_⟩
    refine fun p hp => ⟨l, rfl, _, SqL.of (same_upd hp _ _ hl), [], SqL.of upd_same, ?_⟩
    have s2 := s1.trans (same_upd (o := .lst []) hp)
    by_cases c : refRow b 2 = []
    · refine .inl ⟨c, ?_⟩
      obtain ⟨r, e1, e2⟩ := refRow_nil.mp c
      obtain ⟨dx, l1, l2, ts, ss, fl, h1, h2, h3, h4⟩ := (R.same s2).ex
      rw [e1] at h4
      obtain ⟨rfl, al, rfl⟩ := h4
      refine ⟨_, rfl, _, _, _, _, _, rfl, h1, T.c_Reading, T.n_Reading_starts, rdF_starts _ _ _ _, _, rfl, _, _, _, _, _, rfl, h1, T.c_Reading, T.n_Reading_pieces, rdF_pieces _ _ _ _, l2, l1, _, _, rfl, SqL.of h3, SqL.of h2,
        RZ.for_zipL (K := K) (by rw [starts_len, al.len]) (fun i σ H2 => ∃ u v : Option V, σ = [some (.ref x), some (.ref l), u, v] ∧ Same (upd H1 p (.lst [])) H2 ∧ ∀ y ∈ r.take i, y.isTag = false) ⟨none, none, rfl, Same.refl _, by simp⟩ (fun i σ H2 ⟨_, _, _, s3, _⟩ => ⟨SqL.of (s3 _ _ h3), SqL.of (s3 _ _ h2)⟩) ?_ ?_⟩
      · rintro i y z t σ H2 hy hz ⟨u, v, rfl, s3, nt⟩ ht
        obtain ⟨pc, hpc, tt, rfl, htt⟩ := al.at hz
        have il := (List.getElem?_eq_some_iff.mp hpc).1
        rw [starts_at r 0 i il] at hy
        obtain rfl := Option.some.inj hy
        refine ⟨_, _, rfl, SqT.of upd_same, rfl, _, _, rfl, _, _, rfl, rfl, ?_⟩
        have sT := same_upd (H := H2) (p := t) (o := .tup [.int ((0 + (Fh.rowText (r.take i)).length : Nat) : Int), .ref tt]) ht
        have htt2 := sT _ _ (s3 _ _ htt)
        refine ⟨_, rfl, _, _, _, _, rfl, rfl, SqT.of htt2, atI_nat (j := 0) rfl, rfl, _, rfl, ?_⟩
        dsimp only
        by_cases ek : kindOf pc = 0
        · rw [if_neg (by rw [ek]; simp)]
          refine ⟨_, _, rfl, s3.trans sT, fun y hy => ?_⟩
          rw [take_snoc hpc] at hy
          rcases List.mem_append.mp hy with hy | hy
          · exact nt y hy
          · simp at hy
            rw [hy, isTag_kind, ek]
            rfl
        · rw [if_pos (by simp; exact ek)]
          obtain ⟨q1, q2⟩ := tag_first nt hpc (by rw [isTag_kind]; simp [ek])
          simp [tSeq, tIfS, tTest, tOp, rEq, rNe, rI0, rI, tVar, tC, tRet, tNext, L2.start, scal_ii, scal_nn, scal_in, scal_ni, scal_bb, line1, line2, line3, line7, tAnd, tOr, tNot, CDiv, CMul, tAsg, gName, tAndV, tOrV, tNotV, tCall, tCons, tNil, tCB, rU, tUn, tIf, tB, cx_K, cx_noxK, rIxL, rIxT, tLst]
          rw [Nat.zero_add] at sT
          refine fun q hq => h _ _ (((s2.trans s3).trans sT).trans (same_upd hq)) (((s2.trans s3).trans sT).free hq) ?_
          have e : refWords b = [(-5 : Int), 4, ((FhJournals.tagAt r : Nat) : Int)] := by simp only [refWords, c, e1, q2, if_pos]
          rw [e, upd_same, q1]
          rfl
      · rintro σ H2 ⟨u, v, rfl, s3, nt⟩
        rw [starts_len, List.take_length] at nt
        have te := tag_none nt
        simp [tSeq, tIfS, tTest, tOp, rEq, rNe, rI0, rI, tVar, tC, tRet, tNext, L2.start, scal_ii, scal_nn, scal_in, scal_ni, scal_bb, line1, line2, line3, line7, tAnd, tOr, tNot, CDiv, CMul, tAsg, gName, tAndV, tOrV, tNotV, tCall, tCons, tNil, tCB, rU, tUn, tIf, tB, cx_K, cx_noxK, rIxL, rIxT, tFld, tLst, rEqD]
        refine ⟨_, _, _, s3 _ _ h1, T.c_Reading, T.n_Reading_pieces, _, rdF_pieces _ _ _ _, fun q hq => ?_⟩
        have sq := same_upd (o := .lst []) hq
        refine ⟨_, .lst (SqL.of (sq _ _ (s3 _ _ h2))) (dp_pcs (al.mono fun _ _ z => z.same (s3.trans sq))), _, .lst (SqL.of upd_same) .nil, pc_shaped r, pc_shaped [], ?_⟩
        rw [pc_nil]
        by_cases er : r = []
        · rw [if_pos (by simp [er])]
          refine fun g hg => h _ _ (((s2.trans s3).trans sq).trans (same_upd hg)) (((s2.trans s3).trans sq).free hg) ?_
          have e : refWords b = [(-5 : Int), 5, 0] := by simp only [refWords, c, e1, te]; simp [er]
          rw [e, upd_same]
          rfl
        · rw [if_neg (by simp [er])]
          refine fun g hg => h _ _ (((s2.trans s3).trans sq).trans (same_upd hg)) (((s2.trans s3).trans sq).free hg) ?_
          have e : refWords b = [] := by simp only [refWords, c, e1, te]; simp [er]
          rw [e, upd_same]
          rfl
    · refine .inr ⟨c, h _ _ s2 nl ?_⟩
      have e : refWords b = refRow b 2 := if_neg c
      rw [e]
      exact same_upd hp _ _ hl
/-! ### a record's texts, by its kind -/
def refPut (k : Nat) (src row : Bytes) : List Int := if k = 1 then refPair src row else if src = [] then (if k = 4 then refWords row else if row = [] then [] else [-5, 6, 0]) else [-5, 6, 0]
theorem read_nil : Fh.rowRead [] = .ok [] := rfl
theorem rows_spec (k : Nat) (a b : Bytes) : (∃ x, FhJournals.rowsGiven k a b = .error x ∧ refPut k a b = FfNeutral.numbers x ∧ refPut k a b ≠ []) ∨
    ∃ q, FhJournals.rowsGiven k a b = .ok q ∧ refPut k a b = [] ∧ Fh.rowRead a = .ok q.1 ∧ Fh.rowRead b = .ok q.2 ∧ (k = 1 ∨ q.1 = []) ∧ (k = 1 ∨ k = 4 ∨ q.2 = []) := by
  unfold FhJournals.rowsGiven refPut
  by_cases k1 : k = 1
  · rw [if_pos k1, if_pos k1]
    rcases pair_spec a b with ⟨x, g1, g2, g3⟩ | ⟨q, g1, g2, g3, g4⟩
    · exact .inl ⟨x, g1, g2, g3⟩
    · exact .inr ⟨q, g1, g2, g3, g4, .inl k1, .inl k1⟩
  · rw [if_neg k1, if_neg k1]
    by_cases ha : a = []
    · subst ha
      rw [if_pos rfl]
      by_cases k4 : k = 4
      · rw [if_neg (by simp [k4]), if_pos k4, if_pos k4]
        rcases words_spec b with ⟨x, g1, g2, g3⟩ | ⟨r, g1, g2, g3⟩
        · exact .inl ⟨x, by rw [g1], g2, g3⟩
        · exact .inr ⟨([], r), by rw [g1], g2, rfl, g3, .inr rfl, .inr (.inl k4)⟩
      · rw [if_neg k4, if_neg k4]
        by_cases hb : b = []
        · subst hb
          exact .inr ⟨([], []), by simp, by simp, rfl, rfl, .inr rfl, .inr (.inr rfl)⟩
        · rw [if_neg hb]
          refine .inl ⟨FhJournals.bad 6 0, ?_, rfl, by simp⟩
          rw [if_pos (.inr ⟨k4, by simp [hb]⟩)]
    · rw [if_neg ha]
      refine .inl ⟨FhJournals.bad 6 0, ?_, rfl, by simp⟩
      rw [if_pos (.inl (by simp [ha]))]
theorem bv_ints (b : Bytes) : bv b = (b.map fun c => ((c.toNat : Nat) : Int)).map V.int := by
  unfold bv
  rw [List.map_map]
  rfl
theorem sq_bytes {H : Hp} {a : Addr} {b : Bytes} (h : SqL K H a (bv b)) : SqL K H a ((b.map fun c => ((c.toNat : Nat) : Int)).map V.int) := by
  rw [← bv_ints]
  exact h
def spPutRef (K : PySem.W.Frag) : Sp := fun vs H Q _ => ∃ (k : Nat) (x a : Addr) (b : Bytes) (y c : Addr) (d : Bytes), vs = [.int (k : Nat), .ref x, .ref y] ∧ ReadAt K H x a b ∧ SqL K H a (bv b) ∧ b.length ≤ 1000000 ∧ ReadAt K H y c d ∧ SqL K H c (bv d) ∧ d.length ≤ 1000000 ∧ Gives H (refPut k b d) Q
theorem sc_put_refusal : FnScope ["kind", "source", "row"] ["kind", "source", "row"] (defScope s_put_refusal) := ⟨rfl, rfl, rfl, by decide +kernel, rfl, by decide +kernel, by decide +kernel⟩
theorem ok_put_refusal (T : Tx K mg) : OkF P w K mg base 7 "put_refusal" ["kind", "source", "row"] (spPutRef K) := by
  refine okf (d := d_put_refusal) 35 35 (N := ["kind", "source", "row"]) T rfl rfl rfl rfl rfl sc_put_refusal (fun _ _ _ _ _ _ us hl => match us, hl with | [_, _, _], _ => rfl) (fun vs H Q E h => ?_) (fun f cdv A outer s H vs Q E hr h => ?_)
  · obtain ⟨k, x, a, b, y, c, d, rfl, R, hS, hb, R', hS', hd, h⟩ := h
    rfl
  · obtain ⟨k, x, a, b, y, c, d, rfl, R, hS, hb, R', hS', hd, h⟩ := h
    have hu := hu_of hr
    refine ⟨_, (pss_cons (ps_if (pt_cmpR op_eq (pv 0) (pe_gi T.i_TARGET) (nomark _)) (pss_one (ps_ret (pe_callF (ok_target_refusal T) (hr.mono (by decide)) (pa_cons (pv 1) (pa_cons (pv 2) pa_nil))))) pss_nil)
      (pss_cons (ps_if (pt_cmpR (op_neI hr.units) (pe_fld (pv 1) rfl) (pe_lst pa_nil) (nomark _)) (pss_one (ps_ret (pe_lst (pa_cons (pe_un un_neg pe_int) (pa_cons pe_int (pa_cons pe_int pa_nil)))))) pss_nil)
      (pss_cons (ps_if (pt_cmpR op_eq (pv 0) (pe_gi T.i_REMARK_records) (nomark _)) (pss_one (ps_ret (pe_callF (ok_remark_refusal T) (hr.mono (by decide)) (pa_cons (pv 2) pa_nil)))) pss_nil)
      (pss_cons (ps_if (pt_cmpR (op_neI hr.units) (pe_fld (pv 2) rfl) (pe_lst pa_nil) (nomark _)) (pss_one (ps_ret (pe_lst (pa_cons (pe_un un_neg pe_int) (pa_cons pe_int (pa_cons pe_int pa_nil)))))) pss_nil)
      (pss_one (ps_ret (pe_lst pa_nil))))))), ?_⟩
    simp [tSeq, tIfS, tTest, tOp, rEq, rNe, rI0, rI, tVar, tC, tRet, tNext, L2.start, scal_ii, scal_nn, scal_in, scal_ni, scal_bb, line1, line2, line3, line7, tAnd, tOr, tNot, CDiv, CMul, tAsg, gName, tAndV, tOrV, tNotV, tCall, tCons, tNil, tCB, rU, tUn, tIf, tB, cx_K, cx_noxK, rIxL, rIxT, tFld, tLst, rNeI]
    unfold refPut at h
    by_cases k1 : k = 1
    · rw [if_pos (by omega)]
      rw [if_pos k1] at h
      exact ⟨x, a, b, y, c, d, rfl, R, hS, hb, R', hd, h⟩
    · rw [if_neg (by omega)]
      rw [if_neg k1] at h
      obtain ⟨dx, l1, l2, ts, ss, fl, h1, h2, h3, h4⟩ := R.ex
      obtain ⟨dx', l1', l2', ts', ss', fl', h1', h2', h3', h4'⟩ := R'.ex
      refine ⟨_, _, _, h1, T.c_Reading, T.n_Reading_text, _, rdF_text _ _ _ _, fun p hp => ⟨a, rfl, _, sq_bytes ((same_upd hp).seq hS), [], SqL.of upd_same, ?_⟩⟩
      have sp := same_upd (o := .lst []) hp
      by_cases ha : b = []
      · refine .inl ⟨by simp [ha], ?_⟩
        rw [if_pos ha] at h
        by_cases k4 : k = 4
        · rw [if_pos (by omega)]
          rw [if_pos k4] at h
          exact ⟨y, c, d, rfl, R'.same sp, hd, fun H' q s nq hq => h _ _ (sp.trans s) (sp.free nq) hq⟩
        · rw [if_neg (by omega)]
          rw [if_neg k4] at h
          refine ⟨_, _, _, sp _ _ h1', T.c_Reading, T.n_Reading_text, _, rdF_text _ _ _ _, fun q hq => ⟨c, rfl, _, sq_bytes ((sp.trans (same_upd hq)).seq hS'), [], SqL.of upd_same, ?_⟩⟩
          have sq := sp.trans (same_upd (o := .lst []) hq)
          by_cases hb : d = []
          · refine .inl ⟨by simp [hb], fun g hg => ?_⟩
            rw [if_pos hb] at h
            exact h _ _ (sq.trans (same_upd hg)) (sq.free hg) upd_same
          · refine .inr ⟨by simp [hb], fun g hg => ?_⟩
            rw [if_neg hb] at h
            exact h _ _ (sq.trans (same_upd hg)) (sq.free hg) upd_same
      · refine .inr ⟨by simp [ha], fun g hg => ?_⟩
        rw [if_neg ha] at h
        exact h _ _ (sp.trans (same_upd hg)) (sp.free hg) upd_same
end
end Fj
set_option Elab.async false
set_option linter.all false
set_option maxRecDepth 100000
set_option maxHeartbeats 4000000
/-! ## sorted of a dict's keys, any number of them -/
namespace L2
open PySem PySem.Spec PyProof.Rows
section
variable {X : Cx}
/-- sorted(d), d's keys ints -/
def rSortD : List V → Hp → VK → Prop := fun xs H Q => ∃ (a : Addr) (kvs : List (Key × V)) (ks : List Int), xs = [.ref a] ∧ Rd H a (.dK kvs) ∧ kvs.map (·.1) = ks.map Sum.inl ∧
  ∀ (ys : List Int) (p : Addr), ys.Perm ks → ys.Pairwise (· ≤ ·) → H p = none → Q (.ref p) (upd H p (.lst (ys.map V.int)))
theorem cr_sortD (calm : X.calm = true) : CallR X (.builtin "sorted") rSortD := by
  intro pins s σ H xs us Q I r h
  obtain ⟨a, kvs, ks, rfl, hd, hks, h⟩ := h
  obtain ⟨u, rfl, rx⟩ := vals1 r
  obtain rfl : u = Value.ref a := rx
  obtain ⟨hz, low, vs, kv, dof⟩ := dk_rd I.hok hd
  obtain ⟨ep, at_⟩ := dof.dictAt
  have ek : vs.map (·.1) = ks.map Sum.inl := kv.keys.symm.trans hks
  have el : vs.length = ks.length := by simpa using congrArg List.length ek
  have ez : kvs.length = vs.length := kv.length
  refine Calls.call_function_entry kind_sorted plain_sorted entry_sorted (args_sorted1 _) ?_
  unfold Builtin.«sorted»
  refine wpAny_bind (m := checkCount "sorted" 1 1 _) (wpAny_pure (wpAny_bind (PySem.W.kdu_collect (A := X.A.in1) (PySem.W.kdl_dict (knd := mixKind X.prog X.w) (kvs := vs) (ep := ep) low) (I.ok.hd calm) at_ (by omega) fun h2 tk acc kp it => ?_)))
  have la : acc.toList.length = ks.length := by rw [Array.length_toList, it.1, el]
  have IA : IntsAre acc.toList ks := ints_each la fun j v e => by
    obtain ⟨k, x, e1, e2⟩ := it.2 j v (by rw [← Array.getElem?_toList]; exact e)
    have e3 : (vs.map (·.1))[j]? = some k := by rw [List.getElem?_map, e1] <;> rfl
    rw [ek, List.getElem?_map] at e3
    cases e4 : ks[j]? with
    | none =>
      rw [e4] at e3
      cases e3
    | some y =>
      rw [e4] at e3
      obtain rfl : Sum.inl y = k := Option.some.inj e3
      rcases keyIs_shape (show keyIs (Sum.inl y) v = true from e2) with ⟨i, t, c1, c2⟩ | ⟨z, t, c1, c2⟩
      · cases c1
        exact ⟨y, t, rfl, c2⟩
      · cases c1
  have J : Inv X pins σ H { s with heap := h2, toks := tk } := I.kept kp
  refine wpAny_bind (wpAny_newList ?_ (by omega))
  have ob : (h2.push (seqObj "list" acc.toList.toArray 0)).get? h2.objs.size = some (seqObj "list" acc.toList.toArray 0) := Heap.get?_push_size _ rfl
  show wpAny _ _ _ _ _ { s with heap := h2.push (seqObj "list" acc.toList.toArray 0), toks := tk }
  refine wpAny_bind (wpAny_holding (wpAny_call_entry slot_list_sort ⟨_, ob, rfl⟩ entry_list_sort (SrtO.list_sort_ord (s := { s with heap := h2.push (seqObj "list" acc.toList.toArray 0), toks := tk }) SrtO.swo_int ob (by omega) (fun two => SrtO.ints_sortable IA two) fun out o1 o2 => ⟨_, rfl, ?_⟩) (args_list_sort _)))
  obtain ⟨k1, k2, k3⟩ := SrtO.ints_out IA o1 o2
  obtain ⟨e', he'⟩ := sortedHeap_at (vs := acc.toList) (out := out.toArray) ob
  have hlen : ((out.map SrtO.iv).map V.int).length ≤ sizeLine := by
    rw [List.length_map, k2.length_eq]
    omega
  refine wpAny_pure ⟨_, rfl, .ref h2.objs.size, upd H h2.objs.size (.lst ((out.map SrtO.iv).map V.int)), J.laid (t' := tk) (fun b u e => ?_) (Nat.le_refl _) ⟨hlen, out, e', vals_of_ints k1, he'⟩, rfl, h _ _ k2 k3 (J.hok.fresh (Nat.le_refl _))⟩
  have hb : b < h2.objs.size := Heap.lt_size e
  rw [sortedHeap_old (Nat.ne_of_lt hb) (by rw [size_push']; exact Nat.lt_succ_of_lt hb)]
  exact Heap.get?_push_of_some _ e
end
end L2
namespace L2
open PySem PySem.Spec PyProof.Rows
section
variable {X : Cx}
/-- a pair of ints as a key -/
def pk (q : Int × Int) : List Key := [Sum.inl q.1, Sum.inl q.2]
/-- the pair that a tuple at an address holds -/
def pairAt (H : Hp) : V → Int × Int
  | .ref t => (match H t with
    | some (.tup [.int i, .int j]) => (i, j)
    | _ => (0, 0))
  | _ => (0, 0)
theorem pairAt_of {H : Hp} {t : Addr} {q : Int × Int} (h : H t = some (.tup [.int q.1, .int q.2])) : pairAt H (.ref t) = q := by
  unfold pairAt
  simp only [h]
/-- sorted(d), d's keys pairs of ints -/
def rSortT : List V → Hp → VK → Prop := fun xs H Q => ∃ (d : Addr) (kvs : List (List Key × V)) (ks : List (Int × Int)), xs = [.ref d] ∧ Rd H d (.dT kvs) ∧ kvs.map (·.1) = ks.map pk ∧
  ∀ (zs : List V) (p : Addr), (∀ z ∈ zs, ∃ t, z = V.ref t ∧ H t = some (.tup [.int (pairAt H z).1, .int (pairAt H z).2])) → (zs.map (pairAt H)).Perm ks → (zs.map (pairAt H)).Pairwise (fun a b => SrtO.lexB b a = false) →
    H p = none → Q (.ref p) (upd H p (.lst zs))
theorem kt_pairs {H : Hp} : ∀ {kvs : List (List Key × V)} {ks : List (Int × Int)} {xs : List (List Key × Addr × Value)}, KT H kvs xs → kvs.map (·.1) = ks.map pk → (xs.map fun x => V.ref x.2.1).map (pairAt H) = ks ∧ ∀ x ∈ xs, ∃ q : Int × Int, H x.2.1 = some (.tup [.int q.1, .int q.2])
  | [], ks, _, .nil, e => by
    cases ks with
    | nil => exact ⟨rfl, fun x hx => by cases hx⟩
    | cons q ks => cases e
  | p :: kvs, ks, _, .cons (b := b) h t, e => by
    cases ks with
    | nil => cases e
    | cons q ks =>
      rw [List.map_cons, List.map_cons] at e
      injection e with e1 e2
      obtain ⟨i1, i2⟩ := kt_pairs t e2
      have hb : H b.2.1 = some (.tup [.int q.1, .int q.2]) := by
        rw [h.2.1, e1]
        rfl
      refine ⟨?_, fun x hx => ?_⟩
      · rw [List.map_cons, List.map_cons, i1, pairAt_of hb]
      · rcases List.mem_cons.mp hx with z | z
        · rw [z]
          exact ⟨q, hb⟩
        · exact i2 x z
theorem cr_sortT (calm : X.calm = true) : CallR X (.builtin "sorted") rSortT := by
  intro pins s σ H xs us Q I r h
  obtain ⟨d, kvs, ks, rfl, hd, hks, h⟩ := h
  obtain ⟨u, rfl, rx⟩ := vals1 r
  obtain rfl : u = Value.ref d := rx
  obtain ⟨hz, low, es0, kt, dof⟩ := dt_rd I.hok hd
  obtain ⟨o, es, ep, ho, hx, hdt, he, _, hn⟩ := dof
  have l1 : es.size = es0.length := size_of_entries he
  have l2 : kvs.length = es0.length := Paired.length kt
  obtain ⟨q1, q2⟩ := kt_pairs kt hks
  refine Calls.call_function_entry kind_sorted plain_sorted entry_sorted (args_sorted1 _) ?_
  unfold Builtin.«sorted»
  refine wpAny_bind (m := checkCount "sorted" 1 1 _) (wpAny_pure (wpAny_bind (PySem.W.kdu_collect (A := X.A.in1) (kdl_raw low hx hdt) (I.ok.hd calm) ho (by omega) fun h2 tk acc kp it => ?_)))
  have ea : acc.toList = es0.map fun x => Value.ref x.2.1 := by
    have hl : acc.toList.length = es0.length := by rw [Array.length_toList, it.1]; exact l1
    refine List.ext_getElem? fun j => ?_
    rw [List.getElem?_map]
    cases hj : acc.toList[j]? with
    | none =>
      have := List.getElem?_eq_none_iff.mp hj
      rw [List.getElem?_eq_none (by omega)] <;> rfl
    | some v =>
      obtain ⟨en, c1, c2⟩ := it.2 j v (by rw [← Array.getElem?_toList]; exact hj)
      have c3 := entry_at he j
      rw [c1] at c3
      cases hb : es0[j]? with
      | none =>
        rw [hb] at c3
        cases c3
      | some b =>
        rw [hb] at c3
        have c4 : en = entryOfKey (tupleKind (mixKind X.prog X.w)) b := Option.some.inj c3
        rw [c2, c4] <;> rfl
  have J : Inv X pins σ H { s with heap := h2, toks := tk } := I.kept kp
  have la : acc.toList.length ≤ sizeLine := by rw [ea, List.length_map]; omega
  refine wpAny_bind (wpAny_newList ?_ la)
  have ob : (h2.push (seqObj "list" acc.toList.toArray 0)).get? h2.objs.size = some (seqObj "list" acc.toList.toArray 0) := Heap.get?_push_size _ rfl
  show wpAny _ _ _ _ _ { s with heap := h2.push (seqObj "list" acc.toList.toArray 0), toks := tk }
  have hp : ∀ v ∈ acc.toList, Srt.IsPair (h2.push (seqObj "list" acc.toList.toArray 0)) v (pairAt H (backV v)).1 (pairAt H (backV v)).2 := fun v hv => by
    rw [ea] at hv
    obtain ⟨x, hx1, rfl⟩ := List.mem_map.mp hv
    obtain ⟨q, hq⟩ := q2 x hx1
    have e : pairAt H (backV (Value.ref x.2.1)) = q := pairAt_of hq
    rw [e]
    obtain ⟨_, its2, r2, o2, g1, g2, n2, g3⟩ := J.hok _ _ hq
    obtain ⟨u1, u2, rfl, ri, rj⟩ := vals2 r2
    obtain ⟨t1, rfl⟩ := ri
    obtain ⟨t2, rfl⟩ := rj
    exact ⟨x.2.1, o2, t1, t2, n2, rfl, Heap.get?_push_of_some _ g1, g2, g3⟩
  refine wpAny_bind (wpAny_holding (wpAny_call_entry slot_list_sort ⟨_, ob, rfl⟩ entry_list_sort (SrtO.list_sort_ord (s := { s with heap := h2.push (seqObj "list" acc.toList.toArray 0), toks := tk }) (SrtO.swo_lex fun u => pairAt H (backV u)) ob la
    (fun two => SrtO.pairs_sortableO (by omega) hp fun o e => ?_) fun out o1 o2 => ⟨_, rfl, ?_⟩) (args_list_sort _)))
  · have e' : some o = some (seqObj "list" acc.toList.toArray 0) := e.symm.trans ob
    cases e'
    intro c
    exact absurd (Value.type.inj c) (by decide)
  · have mem : ∀ u ∈ out, ∃ x ∈ es0, u = Value.ref x.2.1 := fun u hu => by
      have m := o2.perm.mem_iff.mp hu
      rw [ea] at m
      obtain ⟨x, m1, m2⟩ := List.mem_map.mp m
      exact ⟨x, m1, m2.symm⟩
    obtain ⟨e', he'⟩ := sortedHeap_at (vs := acc.toList) (out := out.toArray) ob
    have pm : (out.map backV).Perm (es0.map fun x => V.ref x.2.1) := by
      have z := o2.perm.map backV
      rw [ea, List.map_map] at z
      exact z
    have hlen : (out.map backV).length ≤ sizeLine := by
      rw [pm.length_eq, List.length_map]
      omega
    refine wpAny_pure ⟨_, rfl, .ref h2.objs.size, upd H h2.objs.size (.lst (out.map backV)), J.laid (t' := tk) (fun b u e => ?_) (Nat.le_refl _) ⟨hlen, out, e', vals_back (fun u hu => by obtain ⟨x, _, e⟩ := mem u hu; exact ⟨_, e⟩), he'⟩, rfl, h _ _ (fun z hz => ?_) ?_ ?_ (J.hok.fresh (Nat.le_refl _))⟩
    · have hb : b < h2.objs.size := Heap.lt_size e
      rw [sortedHeap_old (Nat.ne_of_lt hb) (by rw [size_push']; exact Nat.lt_succ_of_lt hb)]
      exact Heap.get?_push_of_some _ e
    · obtain ⟨u, hu, rfl⟩ := List.mem_map.mp hz
      obtain ⟨x, m1, rfl⟩ := mem u hu
      obtain ⟨q, hq⟩ := q2 x m1
      refine ⟨x.2.1, rfl, ?_⟩
      rw [show pairAt H (backV (Value.ref x.2.1)) = q from pairAt_of hq]
      exact hq
    · have z := pm.map (pairAt H)
      rw [q1] at z
      exact z
    · rw [List.pairwise_map, List.pairwise_map]
      exact o1
end
end L2
set_option Elab.async false
set_option linter.all false
set_option maxRecDepth 100000
set_option maxHeartbeats 4000000
/-! ## d.setdefault(k, x), d's keys tuples -/
namespace L2
open PySem PySem.Spec PyProof.Rows
section
variable {X : Cx} {o e f : Expr} {td ty tx : TE} {apos cpos : Pos}
def tDSetT (td ty tx : TE) : TE := fun σ H Q => td σ H fun x H1 => ∃ a, x = .ref a ∧ IsD H1 a ∧ ty σ H1 fun y H2 => tx σ H2 fun z H3 => ∃ (kvs : List (List Key × V)) (k : List Key) (b : Addr), H3 a = some (.dT kvs) ∧ y = .ref b ∧ H3 b = some (.tup (k.map kV)) ∧ kvs.length < sizeLine ∧
  (∀ v, valV kvs k = some v → Q v H3) ∧ (valV kvs k = none → Q z (upd H3 a (.dT (putK kvs k z))))
theorem pe_dsetT (hu : X.A.units + 1 < cLine) (ho : PE X o td) (he : PE X e ty) (hf : PE X f tx) (m : M2 X o "setdefault" apos e f cpos) : PE X (.Call (.Attribute o "setdefault" apos) [e, f] [] cpos) (tDSetT td ty tx) := by
  refine ⟨fun pins s σ H Q I h => ?_⟩
  refine wpAny_Call_method m.base m.few m.line F.plainAttrs_dict F.slot_dict_setdefault F.type_dict_setdefault (thn (ho.run pins s σ H _ I h) fun u s1 ⟨x, H1, I1, rx, a, ex, isd, q1⟩ => ?_)
  subst ex
  obtain rfl : u = Value.ref a := rx
  obtain ⟨t1, t2, _⟩ := isD_at I1 isd
  refine ⟨t1, t2, ?_⟩
  rw [m.trees]
  refine Calls.callWith_builtin rfl (Calls.evalArgs_plain (Calls.spliced_cons (thn (he.run pins s1 σ H1 _ I1 q1) fun iv s2 ⟨y, H2, I2, ry, q2⟩ =>
    Calls.spliced_cons (thn (hf.run pins s2 σ H2 _ I2 q2) fun fv s3 ⟨z, H3, I3, rz, kvs, k, b, ea, ey, eb, hl, q3, q4⟩ => Calls.spliced_nil ?_))))
  subst ey
  obtain rfl : iv = Value.ref b := ry
  obtain ⟨hz, low, xs, kt, dd⟩ := dt_of I3.hok ea
  have lx : kvs.length = xs.length := Paired.length kt
  have rel := kt.val k
  refine call_setdefault_heap (tupleKind_room_in1 hu) (key_of I3.hok eb) low dd (fun p hp => ?_) (fun hn h' dd' hs => ?_) (by omega)
  · rw [hp] at rel
    cases q0 : valV kvs k with
    | none =>
      rw [q0] at rel
      exact (show False from rel).elim
    | some v =>
      rw [q0] at rel
      exact ⟨v, H3, I3.tok _, rel, q3 v q0⟩
  · rw [hn] at rel
    cases q0 : valV kvs k with
    | some v =>
      rw [q0] at rel
      exact (show False from rel).elim
    | none =>
      have hl2 : (putK kvs k z).length ≤ sizeLine := by
        have := length_putK kvs k z
        omega
      obtain ⟨oq, es, ep, c1, c2, c3, c4, _, c5⟩ := dd'
      refine ⟨z, upd H3 a (.dT (putK kvs k z)), d_write (ob := .dT (putK kvs k z)) I3 (by rw [ea]; exact True.intro) hs ⟨oq, c1⟩ ⟨hl2, low, _, (kt.put k eb rz).keeps fun c ys ec => ?_, oq, es, ep, c1, c2, c3, c4, c5⟩, rz, q4 q0⟩
      rw [upd_ne (ne_of ec ea (fun z => nomatch z))]
      exact ec
end
end L2
namespace L2
open PySem PySem.Spec PyProof.Rows
section
variable {X : Cx}
/-- (a, b) >= (c, d), ints -/
def rGeP (K : PySem.W.Frag) : R2 := fun x y H Q => ∃ (p q : Addr) (a b c d : Int), x = .ref p ∧ y = .ref q ∧ SqT K H p [.int a, .int b] ∧ SqT K H q [.int c, .int d] ∧ Q (.bl (!SrtO.lexB (a, b) (c, d))) H
theorem op_geP (hu : X.A.units < cLine) : OpR X (compareOp .GtE) (rGeP X.K) := by
  intro pins s σ H x y v u Q I rx ry h
  obtain ⟨p, q, a, b, c, d, rfl, rfl, hp, hq, h⟩ := h
  obtain rfl : v = Value.ref p := rx
  obtain rfl : u = Value.ref q := ry
  obtain ⟨i1, r1, t1, _⟩ := I.tuple hp
  obtain ⟨i2, r2, t2, _⟩ := I.tuple hq
  obtain ⟨u1, u2, rfl, ⟨k1, rfl⟩, ⟨k2, rfl⟩⟩ := vals2 r1
  obtain ⟨w1, w2, rfl, ⟨k3, rfl⟩, ⟨k4, rfl⟩⟩ := vals2 r2
  have at0 : ∀ j, j < 2 → j = 0 ∨ j = 1 := by omega
  have R := Ob.RcOp.tuples_ge (A := X.A) (s := s) (e := fun j => if j = 0 then decide (a = c) else decide (b = d)) (r := fun j => if j = 0 then decide (c ≤ a) else decide (d ≤ b)) t1 t2 hu (fun j h1 h2 => by
    rcases at0 j h1 with rfl | rfl
    · have z : (a == c) = decide (a = c) := by rw [Bool.eq_iff_iff]; simp
      show SeqAt.EqAt _ _ (Value.int a k1) (Value.int c k3) (decide (a = c))
      rw [← z]
      exact SeqAt.EqAt.int_int _ _ _ _
    · have z : (b == d) = decide (b = d) := by rw [Bool.eq_iff_iff]; simp
      show SeqAt.EqAt _ _ (Value.int b k2) (Value.int d k4) (decide (b = d))
      rw [← z]
      exact SeqAt.EqAt.int_int _ _ _ _) (fun j h1 h2 _ => by
    rcases at0 j h1 with rfl | rfl
    · exact Ob.RcOp.ge_int a c k1 k3
    · exact Ob.RcOp.ge_int b d k2 k4)
  have e : Ob.lexAt (fun j => if j = 0 then decide (a = c) else decide (b = d)) (fun j => if j = 0 then decide (c ≤ a) else decide (d ≤ b)) true 0 2 = !SrtO.lexB (a, b) (c, d) := by
    rw [Ob.lexAt_succ, Ob.lexAt_succ, Ob.lexAt_zero]
    unfold SrtO.lexB
    rw [Bool.eq_iff_iff]
    simp
    by_cases e1 : a = c
    · simp [e1]
      by_cases e2 : b = d
      · simp [e2]
      · simp [e2]
    · simp [e1]
  have R2 := R X.prog X.w X.xe (EP X pins σ Q) ⟨.bl _, H, I, rfl, (by
    show Q (.bl (Ob.lexAt _ _ true 0 2)) H
    rw [e]
    exact h)⟩
  exact R2
end
end L2
set_option Elab.async false
set_option linter.all false
set_option maxRecDepth 100000
set_option maxHeartbeats 4000000
namespace L2
open PySem PySem.Spec PyProof.Rows
section
variable {X : Cx}
/-- xs != [], whatever is in xs -/
def rNeNil (K : PySem.W.Frag) : R2 := fun x y H Q => ∃ (a b : Addr) (xs : List V), x = .ref a ∧ y = .ref b ∧ SqL K H a xs ∧ SqL K H b [] ∧ Q (.bl (!decide (xs = []))) H
theorem op_neNil (hu : X.A.units < cLine) : OpR X (compareOp .NotEq) (rNeNil X.K) := by
  intro pins s σ H x y v u Q I rx ry h
  obtain ⟨a, b, xs, rfl, rfl, ha, hb, h⟩ := h
  obtain rfl : v = Value.ref a := rx
  obtain rfl : u = Value.ref b := ry
  obtain ⟨i1, r1, l1, _⟩ := I.list ha
  obtain ⟨i2, r2, l2, _⟩ := I.list hb
  cases r2
  have el := r1.length
  cases xs with
  | nil =>
    cases r1
    have R := SeqAt.RcNeAt.lists (A := X.A) (e := fun _ => true) l1.isList l2.isList rfl hu (fun j h1 h2 => absurd h1 (by simp))
    exact R X.prog X.w X.xe _ ⟨.bl _, H, I, rfl, h⟩
  | cons x xs =>
    have R := SeqAt.RcNeAt.lists_lengths (A := X.A) l1.isList l2.isList (by
      rw [List.size_toArray, ← el]
      simp) hu
    refine R X.prog X.w X.xe _ ⟨.bl _, H, I, rfl, ?_⟩
    simpa using h
end
end L2
set_option Elab.async false
set_option linter.all false
set_option maxRecDepth 100000
set_option maxHeartbeats 4000000
/-! ## A dict of the top: ints to tuples of ints -/
namespace Fj
open PySem PySem.Spec PyProof.Rows L2
theorem tupB'_ok {K : PySem.W.Frag} {t : Addr} {ns : List Int} (h : tupB' K t ns = true) (H : Hp) : SqT K H t (ns.map V.int) := by
  unfold tupB' at h
  cases q : K.lookup t with
  | none =>
    rw [q] at h
    cases h
  | some o =>
    obtain ⟨oc, od, dt, osl⟩ := o
    rw [q] at h
    cases oc with
    | type c =>
      cases dt with
      | seq its n =>
        simp only [Bool.and_eq_true, decide_eq_true_eq] at h
        exact .inr ⟨_, its, n, q, congrArg Value.type h.1, rfl, h.2.1, He.relAll_ok h.2.2⟩
      | _ => cases h
    | _ => cases dt <;> cases h
theorem entB_ok {K : PySem.W.Frag} {e : DictEntry} {r : Int × List Int} (h : entB K e r = true) : ∃ k t, e.key = .int r.1 k ∧ e.val = .ref t ∧ e.hash = hashInt r.1 ∧ tupB' K t r.2 = true := by
  obtain ⟨eh, ek, ev⟩ := e
  unfold entB at h
  cases ek with
  | int i k =>
    cases ev with
    | ref t =>
      simp only [Bool.and_eq_true, decide_eq_true_eq] at h
      obtain ⟨h1, h2, h3⟩ := h
      subst h1
      exact ⟨k, t, rfl, rfl, h2, h3⟩
    | _ => cases h
  | _ => cases h
theorem entsB_keys {K : PySem.W.Frag} {P : Program} {w : World} : ∀ {es : List DictEntry} {rs : List (Int × List Int)}, entsB K es rs = true → ∀ e ∈ es, ∃ k, (mixKind P w).is k e.key = true ∧ e.hash = (mixKind P w).hash k
  | [], _, _, e, h => by cases h
  | e :: es, [], h, _, _ => by cases h
  | e :: es, r :: rs, h, e', h' => by
    have h2 : (entB K e r && entsB K es rs) = true := h
    rw [Bool.and_eq_true] at h2
    rcases List.mem_cons.mp h' with z | z
    · subst z
      obtain ⟨k, t, e1, e2, e3, _⟩ := entB_ok h2.1
      exact ⟨Sum.inl r.1, by rw [e1]; exact keyIs_int r.1 k, e3⟩
    · exact entsB_keys h2.2 e' z
theorem entsB_find {K : PySem.W.Frag} {P : Program} {w : World} {i : Int} {ns : List Int} : ∀ {es : List DictEntry} {rs : List (Int × List Int)}, entsB K es rs = true → rs.lookup i = some ns →
    ∃ e t, es.find? (fun e => (mixKind P w).is (Sum.inl i) e.key) = some e ∧ e.val = .ref t ∧ tupB' K t ns = true
  | [], [], _, h => by cases h
  | [], r :: rs, h, _ => by cases h
  | e :: es, [], h, _ => by cases h
  | e :: es, (j, ms) :: rs, h, hl => by
    have h2 : (entB K e (j, ms) && entsB K es rs) = true := h
    rw [Bool.and_eq_true] at h2
    obtain ⟨k, t, e1, e2, e3, e4⟩ := entB_ok h2.1
    by_cases c : i = j
    · subst c
      rw [List.lookup_cons, beq_self_eq_true] at hl
      obtain rfl := Option.some.inj hl
      refine ⟨e, t, ?_, e2, e4⟩
      rw [List.find?_cons_of_pos]
      rw [e1]
      exact keyIs_int i k
    · rw [List.lookup_cons, beq_eq_false_iff_ne.mpr c] at hl
      obtain ⟨e', t', g1, g2⟩ := entsB_find (P := P) (w := w) h2.2 hl
      refine ⟨e', t', ?_, g2⟩
      rw [List.find?_cons_of_neg]
      · exact g1
      · rw [e1]
        intro z
        rcases keyIs_shape (show keyIs (Sum.inl i) (.int j k) = true from z) with ⟨a, b, c1, c2⟩ | ⟨a, b, c1, c2⟩
        · cases c1
          injection c2 with c2
          exact c c2.symm
        · cases c1
section
variable {X : Cx} {o i : Expr} {pos : Pos} {td ty : TE}
/-- d[i], d a dict of the top -/
def tTab (K : PySem.W.Frag) (a : Addr) (rs : List (Int × List Int)) (td ty : TE) : TE := fun σ H Q => td σ H fun x H1 => ty σ H1 fun y H2 => ∃ (j : Int) (ns : List Int), x = .ref a ∧ y = .int j ∧ rs.lookup j = some ns ∧ ∀ t, SqT K H2 t (ns.map V.int) → Q (.ref t) H2
theorem pe_tab {a : Addr} {rs : List (Int × List Int)} (tb : tabB X.K a rs = true) (ho : PE X o td) (hi : PE X i ty) (hs : NoSl i) : PE X (.Subscript o i pos) (tTab X.K a rs td ty) := by
  refine ⟨fun pins s σ H Q I h => ?_⟩
  refine subD_of F.slot_dict_getitem.lookup hs (thn (ho.run pins s σ H _ I h) fun u s1 ⟨x, H1, I1, rx, q1⟩ => thn (hi.run pins s1 σ H1 _ I1 q1) fun iv s2 ⟨y, H2, I2, ry, j, ns, ex, ey, hl, q2⟩ => ?_)
  subst ex ey
  obtain rfl : u = Value.ref a := rx
  obtain ⟨k, rfl⟩ := (show ∃ t, iv = Value.int j t from ry)
  unfold tabB at tb
  cases q : X.K.lookup a with
  | none =>
    rw [q] at tb
    cases tb
  | some ob =>
    obtain ⟨oc, od, dt, osl⟩ := ob
    rw [q] at tb
    cases oc with
    | type c =>
      cases od with
      | none =>
        cases dt with
        | dict es n =>
          simp only [Bool.and_eq_true, decide_eq_true_eq] at tb
          obtain ⟨rfl, hsl, he⟩ := tb
          have hat := I2.kIn _ _ q
          have ex : Obj.ExactDict ⟨.type "dict", none, .dict es n, osl⟩ := ⟨rfl, rfl, Array.isEmpty_iff.mp hsl⟩
          have mp : s2.heap.MapOf (mixKind X.prog X.w) a (fun k => findBy (mixKind X.prog X.w).is es k) := ⟨_, es, n, hat, ex, rfl, fun e he' => entsB_keys he e (Array.mem_toList_iff.mpr he'), fun _ => rfl⟩
          obtain ⟨e, t, g1, g2, g3⟩ := entsB_find (P := X.prog) (w := X.w) he hl
          refine ⟨mp.typeIs, wpAny_getItem_of (k := Sum.inl j) (keyIs_int j k) mp (v := .ref t) ?_ ⟨.ref t, H2, I2.tok _, rfl, q2 t (tupB'_ok g3 H2)⟩⟩
          unfold findBy
          rw [← Array.find?_toList, g1]
          show some e.val = _
          rw [g2]
        | _ => cases tb
      | some dd => cases dt <;> cases tb
    | _ => cases od <;> cases dt <;> cases tb
end
end Fj
set_option linter.all false
namespace Fj
open Fh FhWork
/-! ## Journals that are well -/
structure ROk (j : Journal) (r : Rec) : Prop where
  kind : r.kind = 1 ∨ r.kind = 2 ∨ r.kind = 3 ∨ r.kind = 4
  rem : r.kind = 4 → r.over = []
  ov : r.over.length ≤ 16
  non : r.kind = 2 ∨ r.kind = 3 → r.source = [] ∧ r.row = []
  txt : (rowText r.source).length ≤ 20000 ∧ (rowText r.row).length ≤ 20000
  ver : r.kind = 2 → ∃ s x, r.over = [s] ∧ j.at_ s = some x ∧ (x.kind = 1 ∨ x.kind = 2) ∧ x.stamp < r.stamp
  cl : ∀ s ∈ r.over, (∃ x ∈ j, x.stamp = s) ∧ s < r.stamp
  can : rowRead (rowText r.source) = .ok r.source ∧ rowRead (rowText r.row) = .ok r.row
  st : r.state ≤ 4
structure JOk (j : Journal) : Prop where
  sorted : j.Pairwise (fun a b => a.stamp < b.stamp)
  recs : ∀ r ∈ j, ROk j r
  few : j.length ≤ 256
theorem jok_nil : JOk [] := ⟨.nil, (fun r h => by cases h), by decide⟩
theorem at_mem {j : Journal} {s : Nat} {x : Rec} (h : j.at_ s = some x) : x ∈ j ∧ x.stamp = s := by
  unfold Journal.at_ at h
  exact ⟨List.mem_of_find?_eq_some h, by simpa using List.find?_some h⟩
theorem at_of {j : Journal} (hs : j.Pairwise (fun a b => a.stamp < b.stamp)) {x : Rec} (h : x ∈ j) : j.at_ x.stamp = some x := by
  induction j with
  | nil => cases h
  | cons y j ih =>
    rw [List.pairwise_cons] at hs
    unfold Journal.at_
    rcases List.mem_cons.mp h with e | e
    · subst e
      rw [List.find?_cons_of_pos (by simp)]
    · have := hs.1 x e
      rw [List.find?_cons_of_neg (by simp; omega)]
      exact ih hs.2 e
theorem stamp_inj {j : Journal} (hs : j.Pairwise (fun a b => a.stamp < b.stamp)) {x y : Rec} (hx : x ∈ j) (hy : y ∈ j) (e : x.stamp = y.stamp) : x = y := by
  have h1 := at_of hs hx
  have h2 := at_of hs hy
  rw [e, h2] at h1
  exact (Option.some.inj h1).symm
/-! ### a segment's records -/
def segOf (j : Journal) (n : Name) : List Rec := j.filter fun r => r.name == n
def headsM (rs : List Rec) : List Rec := rs.filter fun r => r.kind != 4 && !(rs.any fun x => x.over.contains r.stamp)
def remsM (rs : List Rec) : List Rec := rs.filter fun r => r.kind == 4
def standM (hs : List Rec) : Option Rec := (hs.filter fun r => r.kind != 3).foldl better none
theorem works_kind {j : Journal} {r : Rec} (h : ROk j r) : r.works = (r.kind != 4) := by
  unfold Rec.works
  rcases h.kind with e | e | e | e <;> simp [e]
theorem works_seg {j : Journal} (h : JOk j) (n : Name) : worksOf j n = (segOf j n).filter fun r => r.kind != 4 := by
  unfold worksOf segOf
  rw [List.filter_filter]
  refine List.filter_congr fun r hr => ?_
  rw [works_kind (h.recs r hr)]
theorem heads_seg {j : Journal} (h : JOk j) (n : Name) : heads j n = headsM (segOf j n) := by
  unfold heads headsM
  have e : ∀ s, (worksOf j n).any (fun x => x.over.contains s) = (segOf j n).any fun x => x.over.contains s := fun s => by
    rw [works_seg h, Bool.eq_iff_iff, List.any_eq_true, List.any_eq_true]
    constructor
    · rintro ⟨x, h1, h2⟩
      exact ⟨x, (List.mem_filter.mp h1).1, h2⟩
    · rintro ⟨x, h1, h2⟩
      refine ⟨x, List.mem_filter.mpr ⟨h1, ?_⟩, h2⟩
      have hx := h.recs x (List.mem_filter.mp h1).1
      by_cases k : x.kind = 4
      · rw [hx.rem k] at h2
        simp at h2
      · simp [k]
  rw [works_seg h, List.filter_filter]
  refine List.filter_congr fun r hr => ?_
  rw [← works_seg h, e, Bool.and_comm]
theorem rems_seg (j : Journal) (n : Name) : remarks j n = remsM (segOf j n) := by
  unfold remarks remsM segOf
  rw [List.filter_filter]
theorem stand_seg {j : Journal} (h : JOk j) (n : Name) : standing j n = standM (headsM (segOf j n)) := by
  unfold standing standM
  rw [heads_seg h]
/-! ### where a record comes from -/
inductive Org (j : Journal) : Rec → Rec → Prop
  | here {r : Rec} : r.kind ≠ 2 → Org j r r
  | over {r y x : Rec} {s : Nat} : r.kind = 2 → r.over = [s] → j.at_ s = some y → Org j y x → Org j r x
/-- how many of a journal's records are at a stamp or before it -/
def upTo (j : Journal) (s : Nat) : Nat := (j.filter fun r => decide (r.stamp ≤ s)).length
theorem upTo_lt {j : Journal} {x y : Rec} (hy : y ∈ j) (h : x.stamp < y.stamp) : upTo j x.stamp < upTo j y.stamp := by
  unfold upTo
  induction j with
  | nil => cases hy
  | cons z j ih =>
    have mono : (j.filter fun r => decide (r.stamp ≤ x.stamp)).length ≤ (j.filter fun r => decide (r.stamp ≤ y.stamp)).length := by
      rw [← List.countP_eq_length_filter, ← List.countP_eq_length_filter]
      refine List.countP_mono_left fun r _ hr => ?_
      simp at hr ⊢
      omega
    rw [List.filter_cons, List.filter_cons]
    rcases List.mem_cons.mp hy with e | e
    · subst e
      rw [if_neg (by simp; omega), if_pos (by simp), List.length_cons]
      omega
    · have := ih e
      by_cases c : z.stamp ≤ x.stamp
      · rw [if_pos (by simp [c]), if_pos (by simp; omega), List.length_cons, List.length_cons]
        omega
      · rw [if_neg (by simp [c])]
        by_cases c2 : z.stamp ≤ y.stamp
        · rw [if_pos (by simp [c2]), List.length_cons]
          omega
        · rw [if_neg (by simp [c2])]
          exact this
theorem upTo_le (j : Journal) (s : Nat) : upTo j s ≤ j.length := List.length_filter_le _ _
theorem org_ex {j : Journal} (h : JOk j) : ∀ (f : Nat) (r : Rec), r ∈ j → upTo j r.stamp ≤ f → ∃ x, Org j r x ∧ x ∈ j
  | 0, r, hr, hf => by
    have : 0 < upTo j r.stamp := by
      unfold upTo
      exact List.length_pos_of_mem (List.mem_filter.mpr ⟨hr, by simp⟩)
    omega
  | f + 1, r, hr, hf => by
    by_cases k : r.kind = 2
    · obtain ⟨s, y, e1, e2, e3, e4⟩ := (h.recs r hr).ver k
      obtain ⟨m, _⟩ := at_mem e2
      have := upTo_lt hr e4
      obtain ⟨x, o, hx⟩ := org_ex h f y m (by omega)
      exact ⟨x, .over k e1 e2 o, hx⟩
    · exact ⟨r, .here k, hr⟩
theorem root_of {j : Journal} (h : JOk j) {r x : Rec} (o : Org j r x) : r ∈ j → (r.kind = 1 ∨ r.kind = 2) → ∀ f, upTo j r.stamp ≤ f → rootFrom j f r = some x ∧ x.kind = 1 := by
  induction o with
  | here k =>
    rename_i r
    intro hr hk f hf
    have k1 : r.kind = 1 := by rcases hk with e | e; exact e; exact absurd e k
    cases f with
    | zero =>
      have : 0 < upTo j r.stamp := by
        unfold upTo
        exact List.length_pos_of_mem (List.mem_filter.mpr ⟨hr, by simp⟩)
      omega
    | succ f =>
      refine ⟨?_, k1⟩
      unfold rootFrom
      rw [if_pos k1]
  | over k e1 e2 o ih =>
    rename_i r y x s
    intro hr hk f hf
    obtain ⟨s', y', c1, c2, c3, c4⟩ := (h.recs r hr).ver k
    rw [e1] at c1
    injection c1 with c1
    subst c1
    rw [e2] at c2
    obtain rfl := Option.some.inj c2
    obtain ⟨m, _⟩ := at_mem e2
    have := upTo_lt hr c4
    cases f with
    | zero => omega
    | succ f =>
      obtain ⟨i1, i2⟩ := ih m c3 f (by omega)
      refine ⟨?_, i2⟩
      unfold rootFrom
      rw [if_neg (by omega), if_pos k, e1]
      simp only [e2, Option.bind_some]
      exact i1
theorem hand_of {j : Journal} (h : JOk j) {r x : Rec} (hr : r ∈ j) (k4 : r.kind ≠ 4) (o : Org j r x) : hand j r = whoOf x.stamp ∧
    (match root j r with | some y => y = x | none => x = r ∧ r.source = [] ∧ r.row = []) := by
  by_cases k : r.kind = 1 ∨ r.kind = 2
  · obtain ⟨e, _⟩ := root_of h o hr k (j.length + 1) (by have := upTo_le j r.stamp; omega)
    have e2 : root j r = some x := e
    unfold hand
    rw [e2]
    exact ⟨rfl, rfl⟩
  · have k3 : r.kind = 3 := by rcases (h.recs r hr).kind with e | e | e | e <;> simp_all
    have e2 : root j r = none := by
      unfold root rootFrom
      rw [if_neg (by omega), if_neg (by omega)]
    have ex : x = r := by
      cases o with
      | here _ => rfl
      | over k _ _ _ => omega
    unfold hand
    rw [e2]
    exact ⟨by rw [ex], ex, (h.recs r hr).non (.inr k3)⟩
/-! ### a record more -/
theorem into_mem {r x : Rec} : ∀ {j : Journal}, x ∈ into r j ↔ x = r ∨ x ∈ j
  | [] => by simp [into]
  | y :: j => by
    unfold into
    split
    · simp
    · simp only [List.mem_cons, into_mem (j := j)]
      constructor
      · rintro (h | h | h)
        · exact .inr (.inl h)
        · exact .inl h
        · exact .inr (.inr h)
      · rintro (h | h | h)
        · exact .inr (.inl h)
        · exact .inl h
        · exact .inr (.inr h)
theorem into_len (r : Rec) : ∀ j : Journal, (into r j).length = j.length + 1
  | [] => rfl
  | y :: j => by
    unfold into
    split
    · rfl
    · simp [into_len r j]
theorem into_perm (r : Rec) : ∀ j : Journal, (into r j).Perm (r :: j)
  | [] => .refl _
  | y :: j => by
    unfold into
    split
    · exact .refl _
    · exact ((into_perm r j).cons y).trans (.swap r y j)
theorem into_sorted {r : Rec} : ∀ {j : Journal}, j.Pairwise (fun a b => a.stamp < b.stamp) → (∀ x ∈ j, x.stamp ≠ r.stamp) → (into r j).Pairwise (fun a b => a.stamp < b.stamp)
  | [], _, _ => by simp [into]
  | y :: j, hs, hn => by
    rw [List.pairwise_cons] at hs
    unfold into
    split
    · rename_i c
      rw [List.pairwise_cons, List.pairwise_cons]
      refine ⟨fun x hx => ?_, hs⟩
      rcases List.mem_cons.mp hx with e | e
      · rw [e]; exact c
      · have := hs.1 x e
        omega
    · rename_i c
      rw [List.pairwise_cons]
      refine ⟨fun x hx => ?_, into_sorted hs.2 fun x hx => hn x (List.mem_cons_of_mem _ hx)⟩
      rcases into_mem.mp hx with e | e
      · rw [e]
        have := hn y (by simp)
        omega
      · exact hs.1 x e
theorem into_at {r : Rec} {j : Journal} (hs : j.Pairwise (fun a b => a.stamp < b.stamp)) (hn : ∀ x ∈ j, x.stamp ≠ r.stamp) (s : Nat) : (into r j).at_ s = if s = r.stamp then some r else j.at_ s := by
  have hs2 := into_sorted hs hn
  by_cases e : s = r.stamp
  · rw [if_pos e, e]
    exact at_of hs2 (into_mem.mpr (.inl rfl))
  · rw [if_neg e]
    cases q : j.at_ s with
    | none =>
      cases q2 : (into r j).at_ s with
      | none => rfl
      | some x =>
        obtain ⟨m, hm⟩ := at_mem q2
        rcases into_mem.mp m with z | z
        · rw [z] at hm
          exact absurd hm.symm e
        · have := at_of hs z
          rw [hm, q] at this
          cases this
    | some x =>
      obtain ⟨m, hm⟩ := at_mem q
      have := at_of hs2 (into_mem.mpr (.inr m))
      rw [hm] at this
      exact this
theorem has_iff {j : Journal} {s : Nat} : j.has s = true ↔ ∃ x ∈ j, x.stamp = s := by
  unfold Journal.has Journal.at_
  rw [List.find?_isSome]
  simp
theorem has_no {j : Journal} {s : Nat} (h : j.has s = false) : ∀ x ∈ j, x.stamp ≠ s := fun x hx e => by
  have := has_iff.mpr ⟨x, hx, e⟩
  rw [h] at this
  cases this
theorem jok_into {j : Journal} (h : JOk j) {r : Rec} (hn : ∀ x ∈ j, x.stamp ≠ r.stamp) (hr : ROk j r) (hl : j.length < 256) : JOk (into r j) := by
  have up : ∀ {s : Nat} {x : Rec}, j.at_ s = some x → (into r j).at_ s = some x := fun {s x} e => by
    rw [into_at h.sorted hn, if_neg]
    · exact e
    · obtain ⟨m, hm⟩ := at_mem e
      rw [← hm]
      exact hn x m
  have lift : ∀ {y : Rec}, ROk j y → ROk (into r j) y := fun {y} q => ⟨q.kind, q.rem, q.ov, q.non, q.txt, fun k => by
    obtain ⟨s, x, e1, e2, e3⟩ := q.ver k
    exact ⟨s, x, e1, up e2, e3⟩, fun s hs => by
    obtain ⟨⟨x, m, e⟩, l⟩ := q.cl s hs
    exact ⟨⟨x, into_mem.mpr (.inr m), e⟩, l⟩, q.can, q.st⟩
  refine ⟨into_sorted h.sorted hn, fun y hy => ?_, by rw [into_len]; omega⟩
  rcases into_mem.mp hy with e | e
  · rw [e]; exact lift hr
  · exact lift (h.recs y e)
theorem can_nil : rowRead (rowText []) = .ok [] := rfl
/-! ### journals merged -/
theorem fold_perm : ∀ (rs : List Rec) (j : Journal), (rs.foldl (fun a r => into r a) j).Perm (rs ++ j)
  | [], _ => .refl _
  | r :: rs, j => by
    refine (fold_perm rs (into r j)).trans ?_
    refine (List.Perm.append_left rs (into_perm r j)).trans ?_
    exact List.perm_middle
theorem fold_sorted : ∀ (rs : List Rec) (j : Journal), j.Pairwise (fun a b => a.stamp < b.stamp) → rs.Pairwise (fun a b => a.stamp < b.stamp) → (∀ r ∈ rs, ∀ x ∈ j, x.stamp ≠ r.stamp) →
    (rs.foldl (fun a r => into r a) j).Pairwise (fun a b => a.stamp < b.stamp)
  | [], _, h, _, _ => h
  | r :: rs, j, h, hp, hn => by
    rw [List.pairwise_cons] at hp
    refine fold_sorted rs (into r j) (into_sorted h (hn r (by simp))) hp.2 fun q hq x hx => ?_
    rcases into_mem.mp hx with e | e
    · rw [e]
      have := hp.1 q hq
      omega
    · exact hn q (List.mem_cons_of_mem _ hq) x e
/-- those that the other has and this one hasn't a record of that stamp -/
def comingOf (j k : Journal) : List Rec := k.filter fun r => !j.has r.stamp
def Agree (j k : Journal) : Prop := ∀ r ∈ k, ∀ x, j.at_ r.stamp = some x → x = r
theorem differs_iff {j k : Journal} : differsAt j k = none ↔ Agree j k := by
  unfold differsAt Agree
  rw [List.findIdx?_eq_none_iff]
  constructor
  · intro h r hr x hx
    have := h r hr
    rw [hx] at this
    simpa using this
  · intro h r hr
    cases e : j.at_ r.stamp with
    | none => rfl
    | some x =>
      have := h r hr x e
      simp [this]
theorem lacking_is {j k : Journal} (h : Agree j k) : lacking j k = comingOf j k := by
  unfold lacking comingOf
  refine List.filter_congr fun r hr => ?_
  unfold Journal.has
  cases e : j.at_ r.stamp with
  | none => rfl
  | some x =>
    rw [h r hr x e]
    simp
theorem union_mem {j k : Journal} (hj : JOk j) (h : Agree j k) {x : Rec} : x ∈ union j k ↔ x ∈ j ∨ x ∈ k := by
  unfold union
  rw [(fold_perm _ _).mem_iff, lacking_is h, List.mem_append]
  unfold comingOf
  rw [List.mem_filter]
  constructor
  · rintro (z | z)
    · exact .inr z.1
    · exact .inl z
  · rintro (z | z)
    · exact .inr z
    · cases e : j.has x.stamp with
      | false => exact .inl ⟨z, by simp⟩
      | true =>
        unfold Journal.has at e
        obtain ⟨y, hy⟩ := Option.isSome_iff_exists.mp e
        have := h x z y hy
        rw [this] at hy
        exact .inr (at_mem hy).1
theorem union_len {j k : Journal} (h : Agree j k) : (union j k).length = j.length + (comingOf j k).length := by
  unfold union
  rw [(fold_perm _ _).length_eq, lacking_is h, List.length_append]
  omega
theorem union_pieces {j k : Journal} (h : Agree j k) : pieces (union j k) = pieces j + ((comingOf j k).map piecesOf).sum := by
  unfold pieces union
  rw [((fold_perm _ _).map piecesOf).sum_nat, lacking_is h, List.map_append, List.sum_append]
  omega
theorem coming_new {j k : Journal} : ∀ r ∈ comingOf j k, ∀ x ∈ j, x.stamp ≠ r.stamp := fun r hr x hx => by
  have z := (List.mem_filter.mp hr).2
  refine has_no (j := j) (s := r.stamp) ?_ x hx
  simpa using z
theorem jok_union {j k : Journal} (hj : JOk j) (hk : JOk k) (h : Agree j k) (few : (union j k).length ≤ 256) : JOk (union j k) := by
  have srt : (union j k).Pairwise (fun a b => a.stamp < b.stamp) := by
    unfold union
    rw [lacking_is h]
    exact fold_sorted _ _ hj.sorted (hk.sorted.filter _) coming_new
  have up : ∀ {m : Journal} {s : Nat} {x : Rec}, (∀ y ∈ m, y ∈ union j k) → m.at_ s = some x → (union j k).at_ s = some x := fun {m s x} sub e => by
    obtain ⟨m1, m2⟩ := at_mem e
    have := at_of srt (sub x m1)
    rw [m2] at this
    exact this
  have lift : ∀ {m : Journal} {y : Rec}, (∀ y ∈ m, y ∈ union j k) → ROk m y → ROk (union j k) y := fun {m y} sub q => ⟨q.kind, q.rem, q.ov, q.non, q.txt, fun kk => by
    obtain ⟨s, x, e1, e2, e3⟩ := q.ver kk
    exact ⟨s, x, e1, up sub e2, e3⟩, fun s hs => by
    obtain ⟨⟨x, mm, e⟩, l⟩ := q.cl s hs
    exact ⟨⟨x, sub x mm, e⟩, l⟩, q.can, q.st⟩
  refine ⟨srt, fun y hy => ?_, few⟩
  rcases (union_mem hj h).mp hy with e | e
  · exact lift (fun y hy => (union_mem hj h).mpr (.inl hy)) (hj.recs y e)
  · exact lift (fun y hy => (union_mem hj h).mpr (.inr hy)) (hk.recs y e)
/-! ### heads -/
theorem heads_some {j : Journal} (h : JOk j) {n : Name} (hw : worksOf j n ≠ []) : heads j n ≠ [] := by
  have m := List.getLast_mem hw
  have srt : (worksOf j n).Pairwise (fun a b => a.stamp < b.stamp) := h.sorted.filter _
  have top : ∀ x ∈ worksOf j n, x.stamp ≤ ((worksOf j n).getLast hw).stamp := by
    intro x hx
    have e := List.dropLast_concat_getLast hw
    rw [← e] at hx srt
    rcases List.mem_append.mp hx with z | z
    · exact Nat.le_of_lt ((List.pairwise_append.mp srt).2.2 x z _ (by simp))
    · simp at z
      rw [z]
      exact Nat.le_refl _
  intro z
  have q : (worksOf j n).getLast hw ∈ heads j n := by
    unfold heads
    refine List.mem_filter.mpr ⟨m, ?_⟩
    rw [Bool.not_eq_true', List.any_eq_false]
    intro x hx c
    have c2 : ((worksOf j n).getLast hw).stamp ∈ x.over := by simpa using c
    have l := ((h.recs x (List.mem_filter.mp hx).1).cl _ c2).2
    have := top x hx
    omega
  rw [z] at q
  cases q
theorem works_some {j : Journal} {n : Name} : heads j n ≠ [] ↔ worksOf j n ≠ [] ∧ heads j n ≠ [] := by
  constructor
  · intro h
    refine ⟨fun z => h ?_, h⟩
    unfold heads
    rw [z]
    rfl
  · exact fun h => h.2
/-! ### has seen -/
inductive Reach (j : Journal) : Nat → Nat → Prop
  | here {b : Nat} : Reach j b b
  | over {b s a : Nat} {r : Rec} : j.at_ b = some r → s ∈ r.over → Reach j s a → Reach j b a
theorem Reach.trans {j : Journal} {a b c : Nat} (h : Reach j a b) : Reach j b c → Reach j a c := by
  induction h with
  | here => exact id
  | over e m _ ih => exact fun q => .over e m (ih q)
def wsum (j : Journal) (seen : List Nat) : Nat := ((j.filter fun r => !seen.contains r.stamp).map fun r => r.over.length + 1).sum
theorem wsum_le (b : Nat) (seen : List Nat) : ∀ j : Journal, wsum j (b :: seen) ≤ wsum j seen
  | [] => Nat.le_refl _
  | x :: j => by
    have ih := wsum_le b seen j
    unfold wsum at ih ⊢
    by_cases c : seen.contains x.stamp = true
    · rw [List.filter_cons_of_neg (by simp at c ⊢; exact fun _ => c), List.filter_cons_of_neg (by simp at c ⊢; exact c)]
      exact ih
    · rw [List.filter_cons_of_pos (p := fun r : Rec => !seen.contains r.stamp) (by simp at c ⊢; exact c), List.map_cons, List.sum_cons]
      by_cases d : x.stamp = b
      · rw [List.filter_cons_of_neg (by simp [d])]
        omega
      · rw [List.filter_cons_of_pos (by simp at c ⊢; exact ⟨d, c⟩), List.map_cons, List.sum_cons]
        omega
theorem wsum_lt {b : Nat} {seen : List Nat} {r : Rec} (e : r.stamp = b) (hn : seen.contains b = false) : ∀ {j : Journal}, r ∈ j → wsum j (b :: seen) + (r.over.length + 1) ≤ wsum j seen
  | [], h => by cases h
  | x :: j, h => by
    have le := wsum_le b seen j
    rcases List.mem_cons.mp h with z | z
    · subst z
      unfold wsum at le ⊢
      rw [List.filter_cons_of_neg (by simp [e]), List.filter_cons_of_pos (p := fun r : Rec => !seen.contains r.stamp) (by rw [e, hn]; rfl), List.map_cons, List.sum_cons]
      omega
    · have ih := wsum_lt e hn (j := j) z
      unfold wsum at ih le ⊢
      by_cases c : seen.contains x.stamp = true
      · rw [List.filter_cons_of_neg (by simp at c ⊢; exact fun _ => c), List.filter_cons_of_neg (p := fun r : Rec => !seen.contains r.stamp) (by simp at c ⊢; exact c)]
        exact ih
      · rw [List.filter_cons_of_pos (p := fun r : Rec => !seen.contains r.stamp) (by simp at c ⊢; exact c), List.map_cons, List.sum_cons]
        by_cases d : x.stamp = b
        · rw [List.filter_cons_of_neg (by simp [d])]
          omega
        · rw [List.filter_cons_of_pos (by simp at c ⊢; exact ⟨d, c⟩), List.map_cons, List.sum_cons]
          omega
theorem seen_sound {j : Journal} : ∀ (f : Nat) (seen l : List Nat) (a : Nat), a ∈ seenIn j f seen l → a ∈ seen ∨ ∃ b ∈ l, Reach j b a
  | 0, _, _, _, h => .inl h
  | f + 1, _, [], _, h => .inl h
  | f + 1, seen, b :: l, a, h => by
    unfold seenIn at h
    split at h
    · rcases seen_sound f seen l a h with z | ⟨c, hc, q⟩
      · exact .inl z
      · exact .inr ⟨c, List.mem_cons_of_mem _ hc, q⟩
    · split at h
      · rcases seen_sound f seen l a h with z | ⟨c, hc, q⟩
        · exact .inl z
        · exact .inr ⟨c, List.mem_cons_of_mem _ hc, q⟩
      · rename_i r e
        rcases seen_sound f _ _ a h with z | ⟨c, hc, q⟩
        · rcases List.mem_cons.mp z with y | y
          · exact .inr ⟨b, by simp, y ▸ .here⟩
          · exact .inl y
        · rcases List.mem_append.mp hc with y | y
          · exact .inr ⟨b, by simp, .over e y q⟩
          · exact .inr ⟨c, List.mem_cons_of_mem _ y, q⟩
theorem seen_full {j : Journal} (hj : JOk j) : ∀ (f : Nat) (seen l : List Nat), l.length + wsum j seen ≤ f → (∀ s ∈ l, ∃ x ∈ j, x.stamp = s) → (∀ m ∈ seen, ∀ r, j.at_ m = some r → ∀ s ∈ r.over, s ∈ seen ∨ s ∈ l) →
    (∀ m, m ∈ seen ∨ m ∈ l → m ∈ seenIn j f seen l) ∧ ∀ m ∈ seenIn j f seen l, ∀ r, j.at_ m = some r → ∀ s ∈ r.over, s ∈ seenIn j f seen l
  | 0, seen, [], _, _, hc => ⟨fun m hm => by
    unfold seenIn
    simpa using hm, fun m hm r e s hs => by
    unfold seenIn at hm ⊢
    have := hc m hm r e s hs
    simpa using this⟩
  | 0, seen, b :: l, hf, _, _ => by
    rw [List.length_cons] at hf
    omega
  | f + 1, seen, [], _, _, hc => ⟨fun m hm => by
    unfold seenIn
    simpa using hm, fun m hm r e s hs => by
    unfold seenIn at hm ⊢
    have := hc m hm r e s hs
    simpa using this⟩
  | f + 1, seen, b :: l, hf, hl, hc => by
    rw [List.length_cons] at hf
    unfold seenIn
    by_cases c : seen.contains b = true
    · rw [if_pos c]
      have c2 : b ∈ seen := by simpa using c
      obtain ⟨i1, i2⟩ := seen_full hj f seen l (by omega) (fun s hs => hl s (List.mem_cons_of_mem _ hs)) fun m hm r e s hs => by
        rcases hc m hm r e s hs with z | z
        · exact .inl z
        · rcases List.mem_cons.mp z with y | y
          · rw [y]
            exact .inl c2
          · exact .inr y
      refine ⟨fun m hm => i1 m ?_, i2⟩
      rcases hm with z | z
      · exact .inl z
      · rcases List.mem_cons.mp z with y | y
        · rw [y]
          exact .inl c2
        · exact .inr y
    · rw [if_neg c]
      obtain ⟨r, hr, er⟩ := hl b (by simp)
      have e : j.at_ b = some r := by
        rw [← er]
        exact at_of hj.sorted hr
      rw [e]
      dsimp only
      have w := wsum_lt er (by simpa using c) hr
      obtain ⟨i1, i2⟩ := seen_full hj f (b :: seen) (r.over ++ l) (by rw [List.length_append]; omega) (fun s hs => by
        rcases List.mem_append.mp hs with z | z
        · exact ((hj.recs r hr).cl s z).1
        · exact hl s (List.mem_cons_of_mem _ z)) fun m hm r' e' s hs => by
        rcases List.mem_cons.mp hm with y | y
        · rw [y, e] at e'
          obtain rfl := Option.some.inj e'
          exact .inr (List.mem_append_left _ hs)
        · rcases hc m y r' e' s hs with z | z
          · exact .inl (List.mem_cons_of_mem _ z)
          · rcases List.mem_cons.mp z with q | q
            · rw [q]
              exact .inl (by simp)
            · exact .inr (List.mem_append_right _ q)
      refine ⟨fun m hm => i1 m ?_, i2⟩
      rcases hm with z | z
      · exact .inl (List.mem_cons_of_mem _ z)
      · rcases List.mem_cons.mp z with y | y
        · rw [y]
          exact .inl (by simp)
        · exact .inr (List.mem_append_right _ y)
theorem reach_in {j : Journal} {M : Nat → Prop} (hc : ∀ m, M m → ∀ r, j.at_ m = some r → ∀ s ∈ r.over, M s) {b a : Nat} (h : Reach j b a) : M b → M a := by
  induction h with
  | here => exact id
  | over e m _ ih => exact fun q => ih (hc _ q _ e _ m)
theorem sees_iff {j : Journal} (hj : JOk j) {a b : Nat} (hb : j.has b = true) : sees j a b = true ↔ Reach j b a := by
  unfold sees
  have hw : wsum j [] = (j.map fun r => r.over.length + 1).sum := by
    unfold wsum
    rw [List.filter_eq_self.mpr (fun x _ => by simp)]
  obtain ⟨i1, i2⟩ := seen_full hj (1 + (j.map fun r => r.over.length + 1).sum) [] [b] (by rw [hw]; simp) (fun s hs => by
    rw [List.mem_singleton.mp hs]
    exact has_iff.mp hb) (fun m hm => by cases hm)
  rw [List.contains_iff_mem]
  constructor
  · intro h
    rcases seen_sound _ _ _ _ h with z | ⟨c, hc, q⟩
    · cases z
    · rw [List.mem_singleton.mp hc] at q
      exact q
  · intro h
    exact reach_in (M := fun m => m ∈ seenIn j (1 + (j.map fun r => r.over.length + 1).sum) [] [b]) (fun m hm r e s hs => i2 m hm r e s hs) h (i1 b (.inr (by simp)))
end Fj
set_option linter.all false
namespace Fj
open Fh FhWork
/-! ## Names in order -/
theorem nb_iff {a b : Name} : nameBefore a b = true ↔ a.1 < b.1 ∨ (a.1 = b.1 ∧ a.2 < b.2) := by
  unfold nameBefore
  simp
theorem nb_not {a b : Name} : nameBefore a b = false ↔ b.1 < a.1 ∨ (a.1 = b.1 ∧ b.2 ≤ a.2) := by
  rw [← Bool.not_eq_true, nb_iff]
  omega
theorem name_eq {a b : Name} (h1 : a.1 = b.1) (h2 : a.2 = b.2) : a = b := Prod.ext h1 h2
theorem ins_mem {n x : Name} : ∀ {l : List Name}, x ∈ insertName n l ↔ x = n ∨ x ∈ l
  | [] => by simp [insertName]
  | y :: l => by
    unfold insertName
    split
    · simp
    · split
      · rename_i e
        rw [List.mem_cons]
        constructor
        · exact fun z => .inr z
        · rintro (z | z)
          · exact .inl (by rw [z, e])
          · exact z
      · rw [List.mem_cons, List.mem_cons, ins_mem (l := l)]
        constructor
        · rintro (z | z | z)
          · exact .inr (.inl z)
          · exact .inl z
          · exact .inr (.inr z)
        · rintro (z | z | z)
          · exact .inr (.inl z)
          · exact .inl z
          · exact .inr (.inr z)
def Rise (l : List Name) : Prop := l.Pairwise fun a b => nameBefore a b = true
theorem ins_rise {n : Name} : ∀ {l : List Name}, Rise l → Rise (insertName n l)
  | [], _ => by simp [insertName, Rise]
  | y :: l, h => by
    unfold Rise at h
    rw [List.pairwise_cons] at h
    unfold insertName
    split
    · rename_i c
      refine List.pairwise_cons.mpr ⟨fun x hx => ?_, List.pairwise_cons.mpr h⟩
      rcases List.mem_cons.mp hx with e | e
      · rw [e]; exact c
      · have := h.1 x e
        rw [nb_iff] at this c ⊢
        omega
    · split
      · exact List.pairwise_cons.mpr h
      · rename_i c1 c2
        refine List.pairwise_cons.mpr ⟨fun x hx => ?_, ins_rise h.2⟩
        rcases ins_mem.mp hx with e | e
        · rw [e]
          rw [Bool.not_eq_true, nb_not] at c1
          rw [nb_iff]
          have : ¬ (n.1 = y.1 ∧ n.2 = y.2) := fun z => c2 (name_eq z.1 z.2)
          omega
        · exact h.1 x e
theorem names_fold : ∀ (rs : List Rec) (a : List Name), Rise a → Rise (rs.foldl (fun a r => insertName r.name a) a) ∧ ∀ n, n ∈ rs.foldl (fun a r => insertName r.name a) a ↔ n ∈ a ∨ ∃ r ∈ rs, r.name = n
  | [], a, h => ⟨h, fun n => by simp⟩
  | r :: rs, a, h => by
    obtain ⟨h1, h2⟩ := names_fold rs (insertName r.name a) (ins_rise h)
    refine ⟨h1, fun n => ?_⟩
    rw [List.foldl_cons, h2 n, ins_mem]
    constructor
    · rintro ((z | z) | ⟨r', z1, z2⟩)
      · exact .inr ⟨r, List.mem_cons_self, z.symm⟩
      · exact .inl z
      · exact .inr ⟨r', List.mem_cons_of_mem _ z1, z2⟩
    · rintro (z | ⟨r', z1, z2⟩)
      · exact .inl (.inr z)
      · rcases List.mem_cons.mp z1 with e | e
        · exact .inl (.inl (by rw [← z2, e]))
        · exact .inr ⟨r', e, z2⟩
theorem names_rise (rs : List Rec) : Rise (namesOf rs) := (names_fold rs [] .nil).1
theorem names_mem {rs : List Rec} {n : Name} : n ∈ namesOf rs ↔ ∃ r ∈ rs, r.name = n := by
  have := (names_fold rs [] .nil).2 n
  simpa [namesOf] using this
theorem rise_nodup {l : List Name} (h : Rise l) : l.Nodup := h.imp fun {a b} z e => by
  rw [e, nb_iff] at z
  omega
/-- a list of names, nowhere falling, each once, of the same names as the rising one, is that one -/
theorem rise_eq {l m : List Name} (hm : Rise m) (nd : l.Nodup) (srt : l.Pairwise fun a b => nameBefore b a = false) (same : ∀ n, n ∈ l ↔ n ∈ m) : l = m := by
  have p : l.Perm m := (List.perm_ext_iff_of_nodup nd (rise_nodup hm)).mpr same
  refine List.Perm.eq_of_pairwise (le := fun a b => nameBefore b a = false) (fun a b _ _ h1 h2 => ?_) srt (hm.imp fun {a b} z => ?_) p
  · rw [nb_not] at h1 h2
    exact name_eq (by omega) (by omega)
  · rw [nb_iff] at z
    rw [nb_not]
    omega
theorem isSo_seg {j : Journal} (h : JOk j) {what : Nat} (hw : what ≤ 3) (n : Name) : isSo j what n = (if what = 1 then decide (2 ≤ (headsM (segOf j n)).length) else if what = 2 then (standM (headsM (segOf j n))).isSome else if what = 3 then !(remsM (segOf j n)).isEmpty else true) := by
  unfold isSo inConflict
  rw [heads_seg h, stand_seg h, rems_seg]
  by_cases c0 : what = 0
  · rw [if_pos c0, if_neg (by omega), if_neg (by omega), if_neg (by omega)]
  · rw [if_neg c0]
    by_cases c1 : what = 1
    · rw [if_pos c1, if_pos c1]
    · rw [if_neg c1, if_neg c1]
      by_cases c2 : what = 2
      · rw [if_pos c2, if_pos c2]
      · rw [if_neg c2, if_neg c2, if_pos (by omega)]
end Fj
set_option Elab.async false
set_option linter.all false
set_option maxRecDepth 100000
set_option maxHeartbeats 4000000
namespace Fj
open PySem PySem.Spec PyProof.Rows L2
open Fh (Bytes Piece)
open FhWork (Rec Journal)
/-! ## Records and journals as the program has them -/
def recF (st ki : Int) (nm : Addr) (sta : Int) (ov so ro : Addr) (sz : Int) : List (Str × V) :=
  [("stamp", .int st), ("kind", .int ki), ("name", .ref nm), ("state", .int sta), ("over", .ref ov), ("source", .ref so), ("row", .ref ro), ("size", .int sz)]
section
variable (st ki : Int) (nm : Addr) (sta : Int) (ov so ro : Addr) (sz : Int)
theorem recF_mk : putF "size" (.int sz) (putF "row" (.ref ro) (putF "source" (.ref so) (putF "over" (.ref ov) (putF "state" (.int sta) (putF "name" (.ref nm) (putF "kind" (.int ki) (putF "stamp" (.int st) []))))))) = recF st ki nm sta ov so ro sz := by kernel_rfl
theorem recF_stamp : (recF st ki nm sta ov so ro sz).lookup ("stamp" : Str) = some (.int st) := by kernel_rfl
theorem recF_kind : (recF st ki nm sta ov so ro sz).lookup ("kind" : Str) = some (.int ki) := by kernel_rfl
theorem recF_name : (recF st ki nm sta ov so ro sz).lookup ("name" : Str) = some (.ref nm) := by kernel_rfl
theorem recF_state : (recF st ki nm sta ov so ro sz).lookup ("state" : Str) = some (.int sta) := by kernel_rfl
theorem recF_over : (recF st ki nm sta ov so ro sz).lookup ("over" : Str) = some (.ref ov) := by kernel_rfl
theorem recF_source : (recF st ki nm sta ov so ro sz).lookup ("source" : Str) = some (.ref so) := by kernel_rfl
theorem recF_row : (recF st ki nm sta ov so ro sz).lookup ("row" : Str) = some (.ref ro) := by kernel_rfl
theorem recF_size : (recF st ki nm sta ov so ro sz).lookup ("size" : Str) = some (.int sz) := by kernel_rfl
end
/-- the record r stands at p -/
structure RecAt (K : PySem.W.Frag) (H : Hp) (p : Addr) (r : Rec) : Prop where
  ex : ∃ dx nm ov so ro, H p = some (.ins (He.ga K "Record") dx (recF (r.stamp : Nat) (r.kind : Nat) nm (r.state : Nat) ov so ro (FhWork.piecesOf r : Nat))) ∧ H nm = some (.tup [.int (r.name.1 : Nat), .int (r.name.2 : Nat)]) ∧
    H ov = some (.lst (nv r.over)) ∧ H so = some (.lst (bv (Fh.rowText r.source))) ∧ H ro = some (.lst (bv (Fh.rowText r.row)))
def RecV (K : PySem.W.Frag) (H : Hp) (v : V) (r : Rec) : Prop := ∃ p, v = .ref p ∧ RecAt K H p r
theorem RecAt.same {K : PySem.W.Frag} {H H' : Hp} (s : Same H H') {p : Addr} {r : Rec} (h : RecAt K H p r) : RecAt K H' p r := by
  obtain ⟨dx, nm, ov, so, ro, h1, h2, h3, h4, h5⟩ := h.ex
  exact ⟨dx, nm, ov, so, ro, s _ _ h1, s _ _ h2, s _ _ h3, s _ _ h4, s _ _ h5⟩
theorem RecV.same {K : PySem.W.Frag} {H H' : Hp} (s : Same H H') {v : V} {r : Rec} (h : RecV K H v r) : RecV K H' v r := by
  obtain ⟨p, e, h⟩ := h
  exact ⟨p, e, h.same s⟩
/-- all stands but the dict at d -/
def KeptD (H H' : Hp) (d : Addr) : Prop := ∀ b o, H b = some o → b ≠ d → H' b = some o
theorem KeptD.seq {K : PySem.W.Frag} {H H' : Hp} {d a : Addr} {kvs : List (Key × V)} {xs : List V} (k : KeptD H H' d) (hd : H d = some (.dK kvs)) (h : SqL K H a xs) : SqL K H' a xs := by
  rcases h with h | h
  · rcases h with h | ⟨o, h⟩
    · exact .inl (.inl (k _ _ h (ne_of h hd (by intro z; cases z))))
    · exact .inl (.inr ⟨o, k _ _ h (ne_of h hd (by intro z; cases z))⟩)
  · exact .inr h
theorem RecAt.keptD {K : PySem.W.Frag} {H H' : Hp} {d : Addr} {kvs : List (Key × V)} (k : KeptD H H' d) (hd : H d = some (.dK kvs)) {p : Addr} {r : Rec} (h : RecAt K H p r) : RecAt K H' p r := by
  obtain ⟨dx, nm, ov, so, ro, h1, h2, h3, h4, h5⟩ := h.ex
  exact ⟨dx, nm, ov, so, ro, k _ _ h1 (ne_of h1 hd (by intro z; cases z)), k _ _ h2 (ne_of h2 hd (by intro z; cases z)), k _ _ h3 (ne_of h3 hd (by intro z; cases z)), k _ _ h4 (ne_of h4 hd (by intro z; cases z)), k _ _ h5 (ne_of h5 hd (by intro z; cases z))⟩
/-- a journal's pairs, in the order in which they came -/
def jents (rs : List (Rec × Addr)) : List (Key × V) := rs.map fun q => (Sum.inl ((q.1.stamp : Nat) : Int), V.ref q.2)
/-- the journal j stands at J, its dict at d -/
structure JAt (K : PySem.W.Frag) (H : Hp) (J d : Addr) (j : Journal) : Prop where
  ob : ∃ dx, H J = some (.ins (He.ga K "Journal") dx [("records", .ref d)])
  ex : ∃ rs : List (Rec × Addr), H d = some (.dK (jents rs)) ∧ (rs.map (·.1)).Perm j ∧ ∀ q ∈ rs, RecAt K H q.2 q.1
  ok : JOk j
theorem JAt.same {K : PySem.W.Frag} {H H' : Hp} (s : Same H H') {J d : Addr} {j : Journal} (h : JAt K H J d j) : JAt K H' J d j := by
  obtain ⟨dx, ho⟩ := h.ob
  obtain ⟨rs, h1, h2, h3⟩ := h.ex
  exact ⟨⟨dx, s _ _ ho⟩, ⟨rs, s _ _ h1, h2, fun q hq => (h3 q hq).same s⟩, h.ok⟩
theorem jents_val {s : Nat} : ∀ {rs : List (Rec × Addr)}, (rs.map (·.1)).Pairwise (fun a b => a.stamp ≠ b.stamp) → ∀ q ∈ rs, q.1.stamp = s → valV (jents rs) (Sum.inl ((s : Nat) : Int)) = some (.ref q.2)
  | [], _, q, h, _ => by cases h
  | p :: rs, nd, q, h, e => by
    rw [List.map_cons, List.pairwise_cons] at nd
    show valV ((Sum.inl ((p.1.stamp : Nat) : Int), V.ref p.2) :: jents rs) _ = _
    rcases List.mem_cons.mp h with z | z
    · subst z
      rw [valV_pos (by rw [e])]
    · have ne := nd.1 q.1 (List.mem_map_of_mem z)
      rw [valV_neg (by intro y; injection y with y; exact ne (by rw [e]; exact Int.ofNat.inj y))]
      exact jents_val nd.2 q z e
theorem jents_none {s : Nat} : ∀ {rs : List (Rec × Addr)}, (∀ q ∈ rs, q.1.stamp ≠ s) → valV (jents rs) (Sum.inl ((s : Nat) : Int)) = none
  | [], _ => rfl
  | p :: rs, h => by
    show valV ((Sum.inl ((p.1.stamp : Nat) : Int), V.ref p.2) :: jents rs) _ = _
    rw [valV_neg (by intro y; injection y with y; exact h p (by simp) (Int.ofNat.inj y))]
    exact jents_none fun q hq => h q (List.mem_cons_of_mem _ hq)
theorem JAt.nodup {j : Journal} (ok : JOk j) {rs : List (Rec × Addr)} (p : (rs.map (·.1)).Perm j) : (rs.map (·.1)).Pairwise (fun a b => a.stamp ≠ b.stamp) := by
  refine (p.pairwise_iff fun {a b} h => Ne.symm h).mpr (ok.sorted.imp fun h => Nat.ne_of_lt h)
/-- a record of the journal, found by its stamp -/
theorem JAt.get {K : PySem.W.Frag} {H : Hp} {J d : Addr} {j : Journal} (h : JAt K H J d j) {s : Nat} {x : Rec} (hx : j.at_ s = some x) : ∃ p kvs, H d = some (.dK kvs) ∧ valV kvs (Sum.inl ((s : Nat) : Int)) = some (.ref p) ∧ RecAt K H p x := by
  obtain ⟨rs, h1, h2, h3⟩ := h.ex
  obtain ⟨m, e⟩ := at_mem hx
  obtain ⟨q, hq, e2⟩ := List.mem_map.mp (h2.mem_iff.mpr m)
  refine ⟨q.2, _, h1, jents_val (JAt.nodup h.ok h2) q hq (by rw [e2]; exact e), ?_⟩
  rw [← e2]
  exact h3 q hq
theorem JAt.has {K : PySem.W.Frag} {H : Hp} {J d : Addr} {j : Journal} (h : JAt K H J d j) (s : Nat) : ∃ kvs, H d = some (.dK kvs) ∧ (valV kvs (Sum.inl ((s : Nat) : Int))).isSome = j.has s := by
  obtain ⟨rs, h1, h2, h3⟩ := h.ex
  refine ⟨_, h1, ?_⟩
  cases e : j.has s with
  | true =>
    obtain ⟨x, m, hx⟩ := has_iff.mp e
    obtain ⟨q, hq, e2⟩ := List.mem_map.mp (h2.mem_iff.mpr m)
    rw [jents_val (JAt.nodup h.ok h2) q hq (by rw [e2]; exact hx)]
    rfl
  | false =>
    rw [jents_none fun q hq => has_no e q.1 (h2.mem_iff.mp (List.mem_map_of_mem hq))]
    rfl
section
variable {P : Program} {w : World} {K : PySem.W.Frag} {mg : Str → Option Value} {base : Heap}
theorem sc_stamp_number : FnScope ["tick", "who"] ["tick", "who"] (defScope s_stamp_number) := ⟨rfl, rfl, rfl, by decide +kernel, rfl, by decide +kernel, by decide +kernel⟩
theorem ok_stamp_number (T : Tx K mg) : OkF P w K mg base 1 "stamp_number" ["tick", "who"] (spI2 fun m n => .int (m * 256 + n)) := by
  refine okf (d := d_stamp_number) 0 0 (N := ["tick", "who"]) T rfl rfl rfl rfl rfl sc_stamp_number (fun _ _ _ _ _ _ us hl => match us, hl with | [_, _], _ => rfl) (fun vs H Q E h => ?_) (fun f cdv A outer s H vs Q E hr h => ?_)
  · obtain ⟨m, n, rfl, h⟩ := h
    rfl
  · obtain ⟨m, n, rfl, h⟩ := h
    have hu := hu_of hr
    refine ⟨_, (pss_one (ps_ret (pe_op op_add (pe_op op_mul (pv 0) (pe_gi T.i_PERSONS)) (pv 1)))), ?_⟩
    simp [tSeq, tIfS, tTest, tOp, rEq, rNe, rI0, rI, tVar, tC, tRet, tNext, L2.start, scal_ii, scal_nn, scal_in, scal_ni, scal_bb, line1, line2, line3, line7, tAnd, tOr, tNot, CDiv, CMul, tAsg, gName, tAndV, tOrV, tNotV, tCall, tCons, tNil, tCB, rU, tUn, tIf, tB, cx_K, cx_noxK, rIxL, rIxT]
    exact h
def spOfRec (K : PySem.W.Frag) (g : Nat → Int) : Sp := fun vs H Q _ => ∃ (p : Addr) (r : Rec), vs = [.ref p] ∧ RecAt K H p r ∧ Q (.int (g r.stamp)) H
theorem sc_tick_of : FnScope ["record"] ["record"] (defScope s_tick_of) := ⟨rfl, rfl, rfl, by decide +kernel, rfl, by decide +kernel, by decide +kernel⟩
theorem ok_tick_of (T : Tx K mg) : OkF P w K mg base 1 "tick_of" ["record"] (spOfRec K fun s => ((FhWork.tickOf s : Nat) : Int)) := by
  refine okf (d := d_tick_of) 1 1 (N := ["record"]) T rfl rfl rfl rfl rfl sc_tick_of (fun _ _ _ _ _ _ us hl => match us, hl with | [_], _ => rfl) (fun vs H Q E h => ?_) (fun f cdv A outer s H vs Q E hr h => ?_)
  · obtain ⟨p, r, rfl, R, h⟩ := h
    rfl
  · obtain ⟨p, r, rfl, R, h⟩ := h
    have hu := hu_of hr
    refine ⟨_, (pss_one (ps_ret (pe_op op_fdiv (pe_fld (pv 0) rfl) (pe_gi T.i_PERSONS)))), ?_⟩
    simp [tSeq, tIfS, tTest, tOp, rEq, rNe, rI0, rI, tVar, tC, tRet, tNext, L2.start, scal_ii, scal_nn, scal_in, scal_ni, scal_bb, line1, line2, line3, line7, tAnd, tOr, tNot, CDiv, CMul, tAsg, gName, tAndV, tOrV, tNotV, tCall, tCons, tNil, tCB, rU, tUn, tIf, tB, cx_K, cx_noxK, rIxL, rIxT, tFld]
    obtain ⟨dx, nm, ov, so, ro, h1, _⟩ := R.ex
    refine ⟨_, _, _, h1, T.c_Record, T.n_Record_stamp, _, recF_stamp _ _ _ _ _ _ _ _, _, rfl, ?_⟩
    exact h
theorem sc_person_of : FnScope ["record"] ["record"] (defScope s_person_of) := ⟨rfl, rfl, rfl, by decide +kernel, rfl, by decide +kernel, by decide +kernel⟩
theorem ok_person_of (T : Tx K mg) : OkF P w K mg base 1 "person_of" ["record"] (spOfRec K fun s => ((FhWork.whoOf s : Nat) : Int)) := by
  refine okf (d := d_person_of) 2 2 (N := ["record"]) T rfl rfl rfl rfl rfl sc_person_of (fun _ _ _ _ _ _ us hl => match us, hl with | [_], _ => rfl) (fun vs H Q E h => ?_) (fun f cdv A outer s H vs Q E hr h => ?_)
  · obtain ⟨p, r, rfl, R, h⟩ := h
    rfl
  · obtain ⟨p, r, rfl, R, h⟩ := h
    have hu := hu_of hr
    refine ⟨_, (pss_one (ps_ret (pe_op op_mod (pe_fld (pv 0) rfl) (pe_gi T.i_PERSONS)))), ?_⟩
    simp [tSeq, tIfS, tTest, tOp, rEq, rNe, rI0, rI, tVar, tC, tRet, tNext, L2.start, scal_ii, scal_nn, scal_in, scal_ni, scal_bb, line1, line2, line3, line7, tAnd, tOr, tNot, CDiv, CMul, tAsg, gName, tAndV, tOrV, tNotV, tCall, tCons, tNil, tCB, rU, tUn, tIf, tB, cx_K, cx_noxK, rIxL, rIxT, tFld]
    obtain ⟨dx, nm, ov, so, ro, h1, _⟩ := R.ex
    refine ⟨_, _, _, h1, T.c_Record, T.n_Record_stamp, _, recF_stamp _ _ _ _ _ _ _ _, _, rfl, ?_⟩
    exact h
def spRecInit (C : Addr) : Sp := fun vs H Q _ => ∃ (x dx : Addr) (st ki : Int) (nm : Addr) (sta : Int) (ov so ro : Addr) (sz : Int), vs = [.ref x, .int st, .int ki, .ref nm, .int sta, .ref ov, .ref so, .ref ro, .int sz] ∧ H x = some (.ins C dx []) ∧
  Q .non (upd H x (.ins C dx (recF st ki nm sta ov so ro sz)))
theorem upd_upd {H : Hp} {a : Addr} {o o' : HO} : upd (upd H a o) a o' = upd H a o' := by
  funext b
  by_cases e : b = a
  · subst e
    rw [upd_same, upd_same]
  · rw [upd_ne e, upd_ne e, upd_ne e]
theorem sc_Record_init : FnScope ["self", "stamp", "kind", "name", "state", "over", "source", "row", "size"] ["self", "stamp", "kind", "name", "state", "over", "source", "row", "size"] (defScope s_Record_init) := ⟨rfl, rfl, rfl, by decide +kernel, rfl, by decide +kernel, by decide +kernel⟩
noncomputable def fd_Record_init (T : Tx K mg) : FuncData := Classical.choose (T.says.def_ 76 (d := d_Record_init) rfl)
theorem fn_Record_init (T : Tx K mg) : FunD K "__init__" "Record.__init__" (defArgs s_Record_init) (defBody s_Record_init) (defScope s_Record_init) [] [] (He.ma K (He.ga K "Record") "__init__") (fd_Record_init T) := Classical.choose_spec (T.says.def_ 76 (d := d_Record_init) rfl)
theorem b_Record_init (T : Tx K mg) : Binds K (fd_Record_init T) ["self", "stamp", "kind", "name", "state", "over", "source", "row", "size"] [] := FunD.bindsN (fn_Record_init T) (fun _ _ _ _ _ _ us hl => match us, hl with | [_, _, _, _, _, _, _, _, _], _ => rfl)
theorem ok_Record_init (T : Tx K mg) : FnOk P w K mg base CX0 1 (He.ma K (He.ga K "Record") "__init__") (fd_Record_init T) ["self", "stamp", "kind", "name", "state", "over", "source", "row", "size"] (spRecInit (He.ga K "Record")) := by
  refine FunD.ok (fn_Record_init T) sc_Record_init (fun vs H Q E h => ?_) (fun cdv A outer s H vs Q E hr h => ok_nox ?_)
  · obtain ⟨x, dx, st, ki, nm, sta, ov, so, ro, sz, rfl, hx, h⟩ := h
    rfl
  · obtain ⟨x, dx, st, ki, nm, sta, ov, so, ro, sz, rfl, hx, h⟩ := h
    have hu := hu_of hr
    refine ⟨_, (pss_cons (ps_fld (pv 0) (pv 1) rfl)
      (pss_cons (ps_fld (pv 0) (pv 2) rfl)
      (pss_cons (ps_fld (pv 0) (pv 3) rfl)
      (pss_cons (ps_fld (pv 0) (pv 4) rfl)
      (pss_cons (ps_fld (pv 0) (pv 5) rfl)
      (pss_cons (ps_fld (pv 0) (pv 6) rfl)
      (pss_cons (ps_fld (pv 0) (pv 7) rfl)
      (pss_one (ps_fld (pv 0) (pv 8) rfl))))))))), ?_⟩
    simp [tSeq, tIfS, tTest, tOp, rEq, rNe, rI0, rI, tVar, tC, tRet, tNext, L2.start, scal_ii, scal_nn, scal_in, scal_ni, scal_bb, line1, line2, line3, line7, tAnd, tOr, tNot, CDiv, CMul, tAsg, gName, tAndV, tOrV, tNotV, tCall, tCons, tNil, tCB, rU, tUn, tIf, tB, cx_K, cx_noxK, rIxL, rIxT, sFld]
    refine ⟨_, _, _, hx, T.c_Record, T.n_Record_stamp, by decide, ?_⟩
    refine ⟨_, _, _, upd_same, T.c_Record, T.n_Record_kind, (by show 1 < 1000; decide), ?_⟩
    refine ⟨_, _, _, upd_same, T.c_Record, T.n_Record_name, putF_few (putF_few (by decide)), ?_⟩
    refine ⟨_, _, _, upd_same, T.c_Record, T.n_Record_state, putF_few (putF_few (putF_few (by decide))), ?_⟩
    refine ⟨_, _, _, upd_same, T.c_Record, T.n_Record_over, putF_few (putF_few (putF_few (putF_few (by decide)))), ?_⟩
    refine ⟨_, _, _, upd_same, T.c_Record, T.n_Record_source, putF_few (putF_few (putF_few (putF_few (putF_few (by decide))))), ?_⟩
    refine ⟨_, _, _, upd_same, T.c_Record, T.n_Record_row, putF_few (putF_few (putF_few (putF_few (putF_few (putF_few (by decide)))))), ?_⟩
    refine ⟨_, _, _, upd_same, T.c_Record, T.n_Record_size, putF_few (putF_few (putF_few (putF_few (putF_few (putF_few (putF_few (by decide))))))), ?_⟩
    rw [recF_mk]
    simp only [upd_upd]
    exact h
def spJInit (C : Addr) : Sp := fun vs H Q _ => ∃ (x dx : Addr), vs = [.ref x] ∧ H x = some (.ins C dx []) ∧ ∀ d H', H d = none → H' x = some (.ins C dx [("records", .ref d)]) → H' d = some (.dK []) → (∀ b o, H b = some o → b ≠ x → H' b = some o) → Q .non H'
theorem sc_Journal_init : FnScope ["self"] ["self"] (defScope s_Journal_init) := ⟨rfl, rfl, rfl, by decide +kernel, rfl, by decide +kernel, by decide +kernel⟩
noncomputable def fd_Journal_init (T : Tx K mg) : FuncData := Classical.choose (T.says.def_ 77 (d := d_Journal_init) rfl)
theorem fn_Journal_init (T : Tx K mg) : FunD K "__init__" "Journal.__init__" (defArgs s_Journal_init) (defBody s_Journal_init) (defScope s_Journal_init) [] [] (He.ma K (He.ga K "Journal") "__init__") (fd_Journal_init T) := Classical.choose_spec (T.says.def_ 77 (d := d_Journal_init) rfl)
theorem b_Journal_init (T : Tx K mg) : Binds K (fd_Journal_init T) ["self"] [] := FunD.bindsN (fn_Journal_init T) (fun _ _ _ _ _ _ us hl => match us, hl with | [_], _ => rfl)
theorem ok_Journal_init (T : Tx K mg) : FnOk P w K mg base CX0 1 (He.ma K (He.ga K "Journal") "__init__") (fd_Journal_init T) ["self"] (spJInit (He.ga K "Journal")) := by
  refine FunD.ok (fn_Journal_init T) sc_Journal_init (fun vs H Q E h => ?_) (fun cdv A outer s H vs Q E hr h => ok_nox ?_)
  · obtain ⟨x, dx, rfl, hx, h⟩ := h
    rfl
  · obtain ⟨x, dx, rfl, hx, h⟩ := h
    have hu := hu_of hr
    refine ⟨_, (pss_one (ps_fld (pv 0) pe_dnewK rfl)), ?_⟩
    simp [tSeq, tIfS, tTest, tOp, rEq, rNe, rI0, rI, tVar, tC, tRet, tNext, L2.start, scal_ii, scal_nn, scal_in, scal_ni, scal_bb, line1, line2, line3, line7, tAnd, tOr, tNot, CDiv, CMul, tAsg, gName, tAndV, tOrV, tNotV, tCall, tCons, tNil, tCB, rU, tUn, tIf, tB, cx_K, cx_noxK, rIxL, rIxT, sFld, tDNewK]
    intro d hd
    have n1 : x ≠ d := ne_of_none hx hd
    refine ⟨_, _, _, (by rw [upd_ne n1]; exact hx), T.c_Journal, T.n_Journal_records, by decide, h d _ hd upd_same (by rw [upd_ne n1.symm, upd_same]) fun b o e hb => ?_⟩
    rw [upd_ne hb, upd_ne (ne_of_none e hd)]
    exact e
def spHasStamp (K : PySem.W.Frag) : Sp := fun vs H Q _ => ∃ (J d : Addr) (j : Journal) (s : Nat), vs = [.ref J, .int (s : Nat)] ∧ JAt K H J d j ∧ Q (.bl (j.has s)) H
theorem sc_Journal_has_stamp : FnScope ["self", "stamp"] ["self", "stamp"] (defScope s_Journal_has_stamp) := ⟨rfl, rfl, rfl, by decide +kernel, rfl, by decide +kernel, by decide +kernel⟩
noncomputable def fd_Journal_has_stamp (T : Tx K mg) : FuncData := Classical.choose (T.says.def_ 78 (d := d_Journal_has_stamp) rfl)
theorem fn_Journal_has_stamp (T : Tx K mg) : FunD K "has_stamp" "Journal.has_stamp" (defArgs s_Journal_has_stamp) (defBody s_Journal_has_stamp) (defScope s_Journal_has_stamp) [] [] (He.ma K (He.ga K "Journal") "has_stamp") (fd_Journal_has_stamp T) := Classical.choose_spec (T.says.def_ 78 (d := d_Journal_has_stamp) rfl)
theorem b_Journal_has_stamp (T : Tx K mg) : Binds K (fd_Journal_has_stamp T) ["self", "stamp"] [] := FunD.bindsN (fn_Journal_has_stamp T) (fun _ _ _ _ _ _ us hl => match us, hl with | [_, _], _ => rfl)
theorem ok_Journal_has_stamp (T : Tx K mg) : FnOk P w K mg base CX0 1 (He.ma K (He.ga K "Journal") "has_stamp") (fd_Journal_has_stamp T) ["self", "stamp"] (spHasStamp K) := by
  refine FunD.ok (fn_Journal_has_stamp T) sc_Journal_has_stamp (fun vs H Q E h => ?_) (fun cdv A outer s H vs Q E hr h => ok_nox ?_)
  · obtain ⟨J, d, j, st, rfl, hJ, h⟩ := h
    rfl
  · obtain ⟨J, d, j, st, rfl, hJ, h⟩ := h
    have hu := hu_of hr
    refine ⟨_, (pss_one (ps_ret (pe_cmp (pc_din hu (pv 1) (pe_fld (pv 0) rfl)) rfl))), ?_⟩
    simp [tSeq, tIfS, tTest, tOp, rEq, rNe, rI0, rI, tVar, tC, tRet, tNext, L2.start, scal_ii, scal_nn, scal_in, scal_ni, scal_bb, line1, line2, line3, line7, tAnd, tOr, tNot, CDiv, CMul, tAsg, gName, tAndV, tOrV, tNotV, tCall, tCons, tNil, tCB, rU, tUn, tIf, tB, cx_K, cx_noxK, rIxL, rIxT, tDIn, tFld]
    obtain ⟨dx, ho⟩ := hJ.ob
    obtain ⟨kvs, hd, e⟩ := hJ.has st
    refine ⟨_, _, _, ho, T.c_Journal, T.n_Journal_records, _, rfl, d, rfl, _, DGet.k (k := Sum.inl ((st : Nat) : Int)) hd, ?_⟩
    rw [e]
    exact h
end
end Fj
set_option Elab.async false
set_option linter.all false
set_option maxRecDepth 100000
set_option maxHeartbeats 4000000
namespace Fj
open PySem PySem.Spec PyProof.Rows L2
open Fh (Bytes Piece)
open FhWork (Rec Journal)
def stV (j : Journal) : List V := (j.map fun r => ((r.stamp : Nat) : Int)).map V.int
theorem stV_at {j : Journal} {i : Nat} {x : V} (h : (stV j)[i]? = some x) : ∃ r, j[i]? = some r ∧ x = .int ((r.stamp : Nat) : Int) := by
  unfold stV at h
  rw [List.getElem?_map, List.getElem?_map] at h
  cases q : j[i]? with
  | none => rw [q] at h; cases h
  | some r =>
    rw [q] at h
    exact ⟨r, rfl, (Option.some.inj h).symm⟩
theorem stV_len (j : Journal) : (stV j).length = j.length := by unfold stV; rw [List.length_map, List.length_map]
section
variable {P : Program} {w : World} {K : PySem.W.Frag} {mg : Str → Option Value} {base : Heap}
def spOrdered (K : PySem.W.Frag) : Sp := fun vs H Q _ => ∃ (J d : Addr) (j : Journal), vs = [.ref J] ∧ JAt K H J d j ∧ ∀ H' l ws, Same H H' → H' l = some (.lst ws) → All2 (RecV K H') ws j → Q (.ref l) H'
theorem sc_Journal_ordered : FnScope ["self", "stamp"] ["self"] (defScope s_Journal_ordered) := ⟨rfl, rfl, rfl, by decide +kernel, rfl, by decide +kernel, by decide +kernel⟩
noncomputable def fd_Journal_ordered (T : Tx K mg) : FuncData := Classical.choose (T.says.def_ 79 (d := d_Journal_ordered) rfl)
theorem fn_Journal_ordered (T : Tx K mg) : FunD K "ordered" "Journal.ordered" (defArgs s_Journal_ordered) (defBody s_Journal_ordered) (defScope s_Journal_ordered) [] [] (He.ma K (He.ga K "Journal") "ordered") (fd_Journal_ordered T) := Classical.choose_spec (T.says.def_ 79 (d := d_Journal_ordered) rfl)
theorem b_Journal_ordered (T : Tx K mg) : Binds K (fd_Journal_ordered T) ["self"] [] := FunD.bindsN (fn_Journal_ordered T) (fun _ _ _ _ _ _ us hl => match us, hl with | [_], _ => rfl)
theorem ok_Journal_ordered (T : Tx K mg) : FnOk P w K mg base CX0 1 (He.ma K (He.ga K "Journal") "ordered") (fd_Journal_ordered T) ["self"] (spOrdered K) := by
  refine FunD.ok (fn_Journal_ordered T) sc_Journal_ordered (fun vs H Q E h => ?_) (fun cdv A outer s H vs Q E hr h => ok_nox ?_)
  · obtain ⟨J, d, j, rfl, hJ, h⟩ := h
    rfl
  · obtain ⟨J, d, j, rfl, hJ, h⟩ := h
    have hu := hu_of hr
    refine ⟨_, (pss_one (ps_ret (pe_lc (own := [("stamp", 1)]) (g := gName 1) (tt := tYes) (te := (tDGet (tFld K (tVar 0) "records") (tVar 1))) (by rfl) sc_Journal_ordered.nd (pi_list (pe_callB (cr_sortD rfl) (by rfl) T.b_sorted (by decide +kernel) (pa_cons (pe_fld (pv 0) rfl) pa_nil))) (blkOk_by (own := [("stamp", 1)]) (N := ["self", "stamp"]) (sc := (defScope s_Journal_ordered)) (by decide +kernel)) (fun _ _ _ _ _ => pg_name (i := 1) sc_Journal_ordered.nd rfl (Or.inl rfl)) (fun _ _ _ _ _ => pts_nil) (fun _ _ _ _ _ => by exact ((pe_dget hu (pe_fld (pv 0) rfl) (pv 1) (fun _ _ => rfl))))))), ?_⟩
    obtain ⟨dx, ho⟩ := hJ.ob
    obtain ⟨rs, h1, h2, h3⟩ := hJ.ex
    refine ⟨_, rfl, _, _, _, _, _, rfl, ho, T.c_Journal, T.n_Journal_records, rfl, ?_⟩
    refine ⟨d, _, rs.map fun q => ((q.1.stamp : Nat) : Int), rfl, .inl h1, by unfold jents; rw [List.map_map, List.map_map]; rfl, fun ys p perm srt hp => ?_⟩
    have ey : ys = j.map fun r => ((r.stamp : Nat) : Int) := by
      have p1 : (rs.map fun q => ((q.1.stamp : Nat) : Int)).Perm (j.map fun r => ((r.stamp : Nat) : Int)) := by
        have z := h2.map fun r => ((r.stamp : Nat) : Int)
        rw [List.map_map] at z
        exact z
      refine List.Perm.eq_of_pairwise (fun x y _ _ q1 q2 => Int.le_antisymm q1 q2) srt ?_ (perm.trans p1)
      rw [List.pairwise_map]
      exact hJ.ok.sorted.imp fun {a b} q => by omega
    subst ey
    rw [show List.map V.int (List.map (fun r => ((r.stamp : Nat) : Int)) j) = stV j from rfl]
    have s1 := same_upd (o := .lst (stV j)) hp
    have hJ1 := hJ.same s1
    have hpl : upd H p (.lst (stV j)) p = some (.lst (stV j)) := upd_same
    generalize upd H p (.lst (stV j)) = Hs at *
    refine ⟨p, rfl, ⟨_, SqL.of hpl⟩, fun D hD => lc_list (K := K) (a := p) (xs := stV j)
      (fun i H2 => ∃ ws, H2 = upd Hs D (.lst ws) ∧ All2 (RecV K Hs) ws (j.take i))
      ⟨[], rfl, .nil⟩ (fun i H2 _ ⟨ws, e, _⟩ => by rw [e]; exact (same_upd hD).seq (SqL.of hpl)) ?_ ?_⟩
    · rintro i x H2 hi ⟨ws, rfl, al⟩
      obtain ⟨r, hr, rfl⟩ := stV_at hi
      have hm := List.mem_of_getElem? hr
      obtain ⟨pr, kvs, hd, hv, R⟩ := hJ1.get (at_of hJ.ok.sorted hm)
      have s2 := same_upd (o := .lst ws) hD
      refine ⟨rfl, ?_⟩
      simp [tSeq, tIfS, tTest, tOp, rEq, rNe, rI0, rI, tVar, tC, tRet, tNext, L2.start, scal_ii, scal_nn, scal_in, scal_ni, scal_bb, line1, line2, line3, line7, tAnd, tOr, tNot, CDiv, CMul, tAsg, gName, tAndV, tOrV, tNotV, tCall, tCons, tNil, tCB, rU, tUn, tIf, tB, cx_K, cx_noxK, rIxL, rIxT, tYes, tDGet, tFld, wipe]
      refine ⟨_, _, _, s2 _ _ (s1 _ _ ho), T.c_Journal, T.n_Journal_records, _, rfl, d, rfl, .ref pr, ?_, ws, upd_same, ?_, ws ++ [.ref pr], ?_, ?_⟩
      · have z := DGet.k (k := Sum.inl ((r.stamp : Nat) : Int)) (s2 _ _ hd)
        rw [hv] at z
        exact z
      · rw [al.len, List.length_take]
        have := hJ.ok.few
        exact Nat.lt_of_le_of_lt (show min i j.length ≤ 256 by omega) (by decide)
      · rw [upd_upd]
      · rw [take_snoc hr]
        exact al.snoc ⟨pr, rfl, R⟩
    · rintro H2 ⟨ws, rfl, al⟩
      have s2 := same_upd (o := .lst ws) hD
      rw [stV_len, List.take_length] at al
      exact h _ _ _ (s1.trans s2) upd_same (al.mono fun _ _ q => q.same s2)
theorem sum_cast {α : Type} (f : α → Nat) : ∀ l : List α, (l.map fun q => ((f q : Nat) : Int)).sum = (((l.map f).sum : Nat) : Int)
  | [] => rfl
  | x :: l => by
    rw [List.map_cons, List.sum_cons, List.map_cons, List.sum_cons, sum_cast f l]
    omega
/-- journal.has_room(coming), of the records' sizes alone -/
def spRoom (K : PySem.W.Frag) : Sp := fun vs H Q _ => ∃ (J d l : Addr) (j : Journal) (ws : List V) (cs : List Rec), vs = [.ref J, .ref l] ∧ JAt K H J d j ∧ SqL K H l ws ∧ All2 (RecV K H) ws cs ∧ cs.length ≤ 256 ∧ ∀ H', Same H H' → Q (.bl (decide (j.length + cs.length ≤ 256) && decide (FhWork.pieces j + (cs.map FhWork.piecesOf).sum ≤ 16384))) H'
theorem same_listL {K : PySem.W.Frag} {H H' : Hp} {d l : Addr} {kvs : List (Key × V)} {ws : List V} (k : KeptD H H' d) (hd : H d = some (.dK kvs)) (h : SqL K H l ws) : SqL K H' l ws := k.seq hd h
theorem sc_Journal_has_room : FnScope ["self", "coming", "pieces", "record"] ["self", "coming"] (defScope s_Journal_has_room) := ⟨rfl, rfl, rfl, by decide +kernel, rfl, by decide +kernel, by decide +kernel⟩
noncomputable def fd_Journal_has_room (T : Tx K mg) : FuncData := Classical.choose (T.says.def_ 80 (d := d_Journal_has_room) rfl)
theorem fn_Journal_has_room (T : Tx K mg) : FunD K "has_room" "Journal.has_room" (defArgs s_Journal_has_room) (defBody s_Journal_has_room) (defScope s_Journal_has_room) [] [] (He.ma K (He.ga K "Journal") "has_room") (fd_Journal_has_room T) := Classical.choose_spec (T.says.def_ 80 (d := d_Journal_has_room) rfl)
theorem b_Journal_has_room (T : Tx K mg) : Binds K (fd_Journal_has_room T) ["self", "coming"] [] := FunD.bindsN (fn_Journal_has_room T) (fun _ _ _ _ _ _ us hl => match us, hl with | [_, _], _ => rfl)
theorem ok_Journal_has_room (T : Tx K mg) : FnOk P w K mg base CX0 1 (He.ma K (He.ga K "Journal") "has_room") (fd_Journal_has_room T) ["self", "coming"] (spRoom K) := by
  refine FunD.ok (fn_Journal_has_room T) sc_Journal_has_room (fun vs H Q E h => ?_) (fun cdv A outer s H vs Q E hr h => ok_nox ?_)
  · obtain ⟨J, d, l, j, ws, cs, rfl, hJ, hL, al, fc, h⟩ := h
    rfl
  · obtain ⟨J, d, l, j, ws, cs, rfl, hJ, hL, al, fc, h⟩ := h
    have hu := hu_of hr
    refine ⟨_, (pss_cons (ps_set (i := 2) sc_Journal_has_room.nd rfl (Or.inl rfl) (pe_op op_add (pe_callB (cr_sum rfl) (by rfl) T.b_sum (by decide +kernel) (pa_cons (pe_lock (pe_lc (own := [("record", 3)]) (g := gName 3) (tt := tYes) (te := (tFld K (tVar 3) "size")) (by rfl) sc_Journal_has_room.nd (pi_values (pe_fld (pv 0) rfl)) (blkOk_by (own := [("record", 3)]) (N := ["self", "coming", "pieces", "record"]) (sc := (defScope s_Journal_has_room)) (by decide +kernel)) (fun _ _ _ _ _ => pg_name (i := 3) sc_Journal_has_room.nd rfl (Or.inl rfl)) (fun _ _ _ _ _ => pts_nil) (fun _ _ _ _ _ => by exact ((pe_fld (pv 3) rfl))))) pa_nil)) (pe_callB (cr_sum rfl) (by rfl) T.b_sum (by decide +kernel) (pa_cons (pe_lc (own := [("record", 3)]) (g := gName 3) (tt := tYes) (te := (tFld K (tVar 3) "size")) (by rfl) sc_Journal_has_room.nd (pi_list (pv 1)) (blkOk_by (own := [("record", 3)]) (N := ["self", "coming", "pieces", "record"]) (sc := (defScope s_Journal_has_room)) (by decide +kernel)) (fun _ _ _ _ _ => pg_name (i := 3) sc_Journal_has_room.nd rfl (Or.inl rfl)) (fun _ _ _ _ _ => pts_nil) (fun _ _ _ _ _ => by exact ((pe_fld (pv 3) rfl)))) pa_nil))))
      (pss_one (ps_ret (pe_and (pe_cmpR op_le (pe_op op_add (pe_callB call_lenD (by rfl) T.b_len PySem.boot_len (pa_cons (pe_fld (pv 0) rfl) pa_nil)) (pe_callB call_len_seq (by rfl) T.b_len PySem.boot_len (pa_cons (pv 1) pa_nil))) (pe_gi T.i_MOST_RECORDS) (nomark _)) (pe_one (pe_cmpR op_le (pv 2) (pe_gi T.i_MOST_PIECES) (nomark _))))))), ?_⟩
    obtain ⟨dx, ho⟩ := hJ.ob
    obtain ⟨rs, h1, h2, h3⟩ := hJ.ex
    refine ⟨d, _, h1, trivial, fun od => ?_⟩
    have kd : KeptD H (upd H d (.frz od (.dK (jents rs)))) d := fun b o e hb => by rw [upd_ne hb]; exact e
    have hJd : J ≠ d := ne_of ho h1 (by intro z; cases z)
    have hdF : upd H d (.frz od (.dK (jents rs))) d = some (.frz od (.dK (jents rs))) := upd_same
    generalize hHF : upd H d (.frz od (.dK (jents rs))) = HF at *
    refine ⟨_, rfl, _, _, _, _, _, rfl, kd _ _ ho hJd, T.c_Journal, T.n_Journal_records, rfl, d, od, _, rfl, hdF, fun D hD => lc_it (walk_values (d := d) (o := od) (kvs := jents rs))
      (fun i H2 => H2 = upd HF D (.lst ((rs.take i).map fun q => V.int ((FhWork.piecesOf q.1 : Nat) : Int)))) rfl (fun i H2 _ e => by rw [e, upd_ne (ne_of_none hdF hD)]; exact hdF) ?_ ?_⟩
    · rintro i x H2 H3 hi rfl ⟨rfl, k, hk⟩
      have lj : i < rs.length := by unfold jents at hi; rw [List.length_map] at hi; exact hi
      obtain ⟨q, hq⟩ : ∃ q, rs[i]? = some q := ⟨rs[i], List.getElem?_eq_getElem lj⟩
      have ek : (jents rs)[i]? = some (Sum.inl ((q.1.stamp : Nat) : Int), V.ref q.2) := by unfold jents; rw [List.getElem?_map, hq]; rfl
      rw [ek] at hk
      injection hk with hk
      injection hk with _ hk
      subst hk
      obtain ⟨e1, e2, e3, e4, e5, c1, _⟩ := ((h3 q (List.mem_of_getElem? hq)).keptD kd h1).ex
      refine ⟨rfl, ?_⟩
      simp [tSeq, tIfS, tTest, tOp, rEq, rNe, rI0, rI, tVar, tC, tRet, tNext, L2.start, scal_ii, scal_nn, scal_in, scal_ni, scal_bb, line1, line2, line3, line7, tAnd, tOr, tNot, CDiv, CMul, tAsg, gName, tAndV, tOrV, tNotV, tCall, tCons, tNil, tCB, rU, tUn, tIf, tB, cx_K, cx_noxK, rIxL, rIxT, tYes, tFld, wipe]
      refine ⟨_, _, _, same_upd hD _ _ c1, T.c_Record, T.n_Record_size, _, recF_size _ _ _ _ _ _ _ _, _, upd_same, ?_, ?_⟩
      · rw [List.length_take, List.length_map]
        have := hJ.ok.few
        have lr : rs.length = j.length := by simpa using h2.length_eq
        exact Nat.lt_of_le_of_lt (show min i rs.length ≤ 256 by omega) (by decide)
      · rw [upd_upd, take_snoc (l := rs.map fun q => V.int ((FhWork.piecesOf q.1 : Nat) : Int)) (by rw [List.getElem?_map, hq]; rfl)]
    · rintro H2 rfl
      have hDd : d ≠ D := ne_of_none hdF hD
      refine ⟨by rw [upd_ne hDd]; exact hdF, ?_⟩
      have lj : (jents rs).length = rs.length := by unfold jents; rw [List.length_map]
      rw [lj, List.take_length]
      have fD : H D = none := by rw [← hHF, upd_ne hDd.symm] at hD; exact hD
      have sn : Same H (upd (upd HF D (.lst (rs.map fun q => V.int ((FhWork.piecesOf q.1 : Nat) : Int)))) d (.dK (jents rs))) := fun b o e => by
        by_cases hb : b = d
        · subst hb
          rw [upd_same, ← h1, e]
        · rw [upd_ne hb, upd_ne (ne_of_none e fD)]
          exact kd b o e hb
      have hDn : upd (upd HF D (.lst (rs.map fun q => V.int ((FhWork.piecesOf q.1 : Nat) : Int)))) d (.dK (jents rs)) D = some (.lst (rs.map fun q => V.int ((FhWork.piecesOf q.1 : Nat) : Int))) := by rw [upd_ne hDd.symm, upd_same]
      generalize upd (upd HF D (.lst (rs.map fun q => V.int ((FhWork.piecesOf q.1 : Nat) : Int)))) d (.dK (jents rs)) = Hn at *
      have en : (rs.map fun q => V.int ((FhWork.piecesOf q.1 : Nat) : Int)) = (rs.map fun q => ((FhWork.piecesOf q.1 : Nat) : Int)).map V.int := by rw [List.map_map]; rfl
      rw [en] at hDn
      have lr : rs.length = j.length := by simpa using h2.length_eq
      have sp : (rs.map fun q => ((FhWork.piecesOf q.1 : Nat) : Int)).sum = ((FhWork.pieces j : Nat) : Int) := by
        have z : (rs.map fun q => FhWork.piecesOf q.1).sum = FhWork.pieces j := by
          unfold FhWork.pieces
          rw [← (h2.map FhWork.piecesOf).sum_nat, List.map_map]
          rfl
        rw [← z]
        exact sum_cast _ _
      refine ⟨D, _, rfl, SqL.of hDn, ?_⟩
      have hL1 := sn.seq hL
      have al1 := al.mono fun _ _ q => RecV.same sn q
      refine ⟨_, rfl, l, rfl, ⟨_, hL1⟩, fun D2 hD2 => lc_list (K := K) (a := l) (xs := ws) (fun i H2 => H2 = upd Hn D2 (.lst ((cs.take i).map fun r => V.int ((FhWork.piecesOf r : Nat) : Int)))) rfl (fun i H2 _ e => by rw [e]; exact (same_upd hD2).seq hL1) ?_ ?_⟩
      · rintro i x H2 hi rfl
        obtain ⟨r, hr, p, rfl, R⟩ := al1.at hi
        obtain ⟨e1, e2, e3, e4, e5, c1, _⟩ := R.ex
        refine ⟨rfl, ?_⟩
        simp [tSeq, tIfS, tTest, tOp, rEq, rNe, rI0, rI, tVar, tC, tRet, tNext, L2.start, scal_ii, scal_nn, scal_in, scal_ni, scal_bb, line1, line2, line3, line7, tAnd, tOr, tNot, CDiv, CMul, tAsg, gName, tAndV, tOrV, tNotV, tCall, tCons, tNil, tCB, rU, tUn, tIf, tB, cx_K, cx_noxK, rIxL, rIxT, tYes, tFld, wipe]
        refine ⟨_, _, _, same_upd hD2 _ _ c1, T.c_Record, T.n_Record_size, _, recF_size _ _ _ _ _ _ _ _, _, upd_same, ?_, ?_⟩
        · rw [List.length_take, List.length_map]
          exact Nat.lt_of_le_of_lt (show min i cs.length ≤ 256 by omega) (by decide)
        · rw [upd_upd, take_snoc (l := cs.map fun r => V.int ((FhWork.piecesOf r : Nat) : Int)) (by rw [List.getElem?_map, hr]; rfl)]
      · rintro H2 rfl
        rw [al1.len, List.take_length]
        have s2 := same_upd (o := .lst (cs.map fun r => V.int ((FhWork.piecesOf r : Nat) : Int))) hD2
        have hD3 : upd Hn D2 (.lst (cs.map fun r => V.int ((FhWork.piecesOf r : Nat) : Int))) D2 = some (.lst ((cs.map fun r => ((FhWork.piecesOf r : Nat) : Int)).map V.int)) := by rw [upd_same, List.map_map]; rfl
        have sA := sn.trans s2
        generalize upd Hn D2 (.lst (cs.map fun r => V.int ((FhWork.piecesOf r : Nat) : Int))) = H4 at *
        refine ⟨D2, _, rfl, SqL.of hD3, ?_⟩
        have sc : (cs.map fun r => ((FhWork.piecesOf r : Nat) : Int)).sum = (((cs.map FhWork.piecesOf).sum : Nat) : Int) := sum_cast _ _
        rw [sp, sc]
        simp [tSeq, tIfS, tTest, tOp, rEq, rNe, rI0, rI, tVar, tC, tRet, tNext, L2.start, scal_ii, scal_nn, scal_in, scal_ni, scal_bb, line1, line2, line3, line7, tAnd, tOr, tNot, CDiv, CMul, tAsg, gName, tAndV, tOrV, tNotV, tCall, tCons, tNil, tCB, rU, tUn, tIf, tB, cx_K, cx_noxK, rIxL, rIxT, tFld]
        refine ⟨_, _, _, sA _ _ ho, T.c_Journal, T.n_Journal_records, _, rfl, d, rfl, _, sA _ _ h1, _, .inl (sA.seq hL), ?_⟩
        rw [lj, lr, al.len]
        by_cases c : j.length + cs.length ≤ 256
        · rw [if_pos (by omega)]
          have z := h _ sA
          rw [decide_eq_true c, Bool.true_and] at z
          have e : decide (((FhWork.pieces j : Nat) : Int) + (((cs.map FhWork.piecesOf).sum : Nat) : Int) ≤ 16384) = decide (FhWork.pieces j + (cs.map FhWork.piecesOf).sum ≤ 16384) := by
            rw [Bool.eq_iff_iff, decide_eq_true_eq, decide_eq_true_eq]
            omega
          rw [e]
          exact z
        · rw [if_neg (by omega)]
          have z := h _ sA
          rw [decide_eq_false c, Bool.false_and] at z
          exact z
/-- a journal's dict, whatever is in it -/
structure JRaw (K : PySem.W.Frag) (H : Hp) (J d : Addr) (j : Journal) : Prop where
  ob : ∃ dx, H J = some (.ins (He.ga K "Journal") dx [("records", .ref d)])
  ex : ∃ rs : List (Rec × Addr), H d = some (.dK (jents rs)) ∧ (rs.map (·.1)).Perm j ∧ ∀ q ∈ rs, RecAt K H q.2 q.1
theorem JAt.raw {K : PySem.W.Frag} {H : Hp} {J d : Addr} {j : Journal} (h : JAt K H J d j) : JRaw K H J d j := ⟨h.ob, h.ex⟩
theorem JRaw.well {K : PySem.W.Frag} {H : Hp} {J d : Addr} {j : Journal} (h : JRaw K H J d j) (ok : JOk j) : JAt K H J d j := ⟨h.ob, h.ex, ok⟩
def spPutIn (K : PySem.W.Frag) : Sp := fun vs H Q _ => ∃ (J d p : Addr) (j : Journal) (r : Rec), vs = [.ref J, .ref p] ∧ JRaw K H J d j ∧ RecAt K H p r ∧ j.has r.stamp = false ∧ j.length ≤ 1000 ∧
  ∀ H', JRaw K H' J d (FhWork.into r j) → KeptD H H' d → Q .non H'
theorem sc_Journal_put_in : FnScope ["self", "record"] ["self", "record"] (defScope s_Journal_put_in) := ⟨rfl, rfl, rfl, by decide +kernel, rfl, by decide +kernel, by decide +kernel⟩
noncomputable def fd_Journal_put_in (T : Tx K mg) : FuncData := Classical.choose (T.says.def_ 81 (d := d_Journal_put_in) rfl)
theorem fn_Journal_put_in (T : Tx K mg) : FunD K "put_in" "Journal.put_in" (defArgs s_Journal_put_in) (defBody s_Journal_put_in) (defScope s_Journal_put_in) [] [] (He.ma K (He.ga K "Journal") "put_in") (fd_Journal_put_in T) := Classical.choose_spec (T.says.def_ 81 (d := d_Journal_put_in) rfl)
theorem b_Journal_put_in (T : Tx K mg) : Binds K (fd_Journal_put_in T) ["self", "record"] [] := FunD.bindsN (fn_Journal_put_in T) (fun _ _ _ _ _ _ us hl => match us, hl with | [_, _], _ => rfl)
theorem ok_Journal_put_in (T : Tx K mg) : FnOk P w K mg base CX0 1 (He.ma K (He.ga K "Journal") "put_in") (fd_Journal_put_in T) ["self", "record"] (spPutIn K) := by
  refine FunD.ok (fn_Journal_put_in T) sc_Journal_put_in (fun vs H Q E h => ?_) (fun cdv A outer s H vs Q E hr h => ok_nox ?_)
  · obtain ⟨J, d, p, j, r, rfl, hJ, R, hn, few, h⟩ := h
    rfl
  · obtain ⟨J, d, p, j, r, rfl, hJ, R, hn, few, h⟩ := h
    have hu := hu_of hr
    refine ⟨_, (pss_one (ps_dput hu (pe_fld (pv 0) rfl) (pe_fld (pv 1) rfl) (pv 1) rfl)), ?_⟩
    obtain ⟨dx, ho⟩ := hJ.ob
    obtain ⟨rs, h1, h2, h3⟩ := hJ.ex
    obtain ⟨dx', nm, ov, so, ro, g1, _⟩ := R.ex
    simp [tSeq, tIfS, tTest, tOp, rEq, rNe, rI0, rI, tVar, tC, tRet, tNext, L2.start, scal_ii, scal_nn, scal_in, scal_ni, scal_bb, line1, line2, line3, line7, tAnd, tOr, tNot, CDiv, CMul, tAsg, gName, tAndV, tOrV, tNotV, tCall, tCons, tNil, tCB, rU, tUn, tIf, tB, cx_K, cx_noxK, rIxL, rIxT, sDPut, tFld]
    have lr : rs.length = j.length := by simpa using h2.length_eq
    have nin := has_no hn
    have vn : valV (jents rs) (Sum.inl ((r.stamp : Nat) : Int)) = none := jents_none fun q hq => nin q.1 (h2.mem_iff.mp (List.mem_map_of_mem hq))
    refine ⟨_, _, _, ho, T.c_Journal, T.n_Journal_records, _, rfl, _, _, _, g1, T.c_Record, T.n_Record_stamp, _, recF_stamp _ _ _ _ _ _ _ _, d, rfl, _, DPut.k (k := Sum.inl ((r.stamp : Nat) : Int)) h1 ?_, ?_⟩
    · unfold jents
      rw [List.length_map]
      exact Nat.lt_of_le_of_lt (show rs.length ≤ 1000 by omega) (by decide)
    · rw [putK_new _ vn]
      have kd : KeptD H (upd H d (.dK (jents rs ++ [(Sum.inl ((r.stamp : Nat) : Int), V.ref p)]))) d := fun b o e hb => by rw [upd_ne hb]; exact e
      refine h _ ⟨⟨dx, kd _ _ ho (ne_of ho h1 (by intro z; cases z))⟩, ⟨rs ++ [(r, p)], ?_, ?_, fun q hq => ?_⟩⟩ kd
      · rw [upd_same]
        unfold jents
        rw [List.map_append]
        rfl
      · rw [List.map_append]
        refine (List.perm_append_comm.trans ?_).trans (into_perm r j).symm
        exact h2.cons r
      · rcases List.mem_append.mp hq with z | z
        · exact (h3 q z).keptD kd h1
        · simp at z
          rw [z]
          exact R.keptD kd h1
end
end Fj
set_option Elab.async false
set_option linter.all false
set_option maxRecDepth 100000
set_option maxHeartbeats 4000000
namespace Fj
open PySem PySem.Spec PyProof.Rows L2
open Fh (Bytes Piece)
open FhWork (Rec Journal)
/-- gives a new list of these records -/
def GivesR (K : PySem.W.Frag) (H : Hp) (rs : List Rec) (Q : VK) : Prop := ∀ H' l ws, Same H H' → H' l = some (.lst ws) → All2 (RecV K H') ws rs → Q (.ref l) H'
theorem filter_snoc {α : Type} {l : List α} {i : Nat} {x : α} (p : α → Bool) (h : l[i]? = some x) : (l.take (i + 1)).filter p = (l.take i).filter p ++ (if p x = true then [x] else []) := by
  rw [take_snoc h, List.filter_append, List.filter_cons]
  rfl
theorem filter_few {rs : List Rec} (few : rs.length ≤ 256) {i : Nat} {p : Rec → Bool} : ((rs.take i).filter p).length < sizeLine := by
  have z := List.length_filter_le p (rs.take i)
  rw [List.length_take] at z
  exact Nat.lt_of_le_of_lt (show _ ≤ 256 by omega) (by decide)
def isHead (rs : List Rec) (r : Rec) : Bool := r.kind != 4 && !(rs.any fun x => x.over.contains r.stamp)
theorem headsM_is (rs : List Rec) : headsM rs = rs.filter (isHead rs) := rfl
/-- one list of records in -/
def spRecs (K : PySem.W.Frag) (f : List Rec → List Rec) : Sp := fun vs H Q _ => ∃ (l : Addr) (ws : List V) (rs : List Rec), vs = [.ref l] ∧ SqL K H l ws ∧ All2 (RecV K H) ws rs ∧ rs.length ≤ 256 ∧ (∀ r ∈ rs, r.over.length ≤ 16) ∧ GivesR K H (f rs) Q
section
variable {P : Program} {w : World} {K : PySem.W.Frag} {mg : Str → Option Value} {base : Heap}
theorem sc_remarks_of : FnScope ["records", "record"] ["records"] (defScope s_remarks_of) := ⟨rfl, rfl, rfl, by decide +kernel, rfl, by decide +kernel, by decide +kernel⟩
theorem ok_remarks_of (T : Tx K mg) : OkF P w K mg base 1 "remarks_of" ["records"] (spRecs K remsM) := by
  refine okf (d := d_remarks_of) 39 39 (N := ["records", "record"]) T rfl rfl rfl rfl rfl sc_remarks_of (fun _ _ _ _ _ _ us hl => match us, hl with | [_], _ => rfl) (fun vs H Q E h => ?_) (fun f cdv A outer s H vs Q E hr h => ?_)
  · obtain ⟨l, ws, rs, rfl, hS, al, few, ov, h⟩ := h
    rfl
  · obtain ⟨l, ws, rs, rfl, hS, al, few, ov, h⟩ := h
    have hu := hu_of hr
    refine ⟨_, (pss_one (ps_ret (pe_lc (own := [("record", 1)]) (g := gName 1) (tt := (tTest (tOp rEq (tFld K (tVar 1) "kind") (tC (V.int 4))))) (te := (tVar 1)) (by rfl) sc_remarks_of.nd (pi_list (pv 0)) (blkOk_by (own := [("record", 1)]) (N := ["records", "record"]) (sc := (defScope s_remarks_of)) (by decide +kernel)) (fun _ _ _ _ _ => pg_name (i := 1) sc_remarks_of.nd rfl (Or.inl rfl)) (fun _ _ _ _ _ => by exact (pts_one (pt_cmpR op_eq (pe_fld (pv 1) rfl) (pe_gi T.i_REMARK_records) (nomark _)))) (fun _ _ _ _ _ => by exact ((pv 1)))))), ?_⟩
    refine ⟨_, rfl, l, rfl, ⟨_, hS⟩, fun D hD => lc_list (K := K) (a := l) (xs := ws) (fun i H2 => ∃ us, H2 = upd H D (.lst us) ∧ All2 (RecV K H) us ((rs.take i).filter fun r => r.kind == 4)) ⟨[], rfl, .nil⟩ (fun i H2 _ ⟨us, e, _⟩ => by rw [e]; exact (same_upd hD).seq hS) ?_ ?_⟩
    · rintro i x H2 hi ⟨us, rfl, al2⟩
      obtain ⟨r, hr, p, rfl, R⟩ := al.at hi
      obtain ⟨e1, e2, e3, e4, e5, c1, _⟩ := R.ex
      have s2 := same_upd (o := .lst us) hD
      refine ⟨rfl, ?_⟩
      simp [tSeq, tIfS, tTest, tOp, rEq, rNe, rI0, rI, tVar, tC, tRet, tNext, L2.start, scal_ii, scal_nn, scal_in, scal_ni, scal_bb, line1, line2, line3, line7, tAnd, tOr, tNot, CDiv, CMul, tAsg, gName, tAndV, tOrV, tNotV, tCall, tCons, tNil, tCB, rU, tUn, tIf, tB, cx_K, cx_noxK, rIxL, rIxT, tFld, wipe]
      refine ⟨_, _, _, s2 _ _ c1, T.c_Record, T.n_Record_kind, _, recF_kind _ _ _ _ _ _ _ _, rfl, ?_⟩
      by_cases k : r.kind = 4
      · rw [if_pos (by rw [k]; rfl)]
        refine ⟨us, upd_same, ?_, us ++ [.ref p], ?_, ?_⟩
        · rw [al2.len]
          exact filter_few few
        · rw [upd_upd]
        · rw [filter_snoc _ hr, if_pos (by simp [k])]
          exact al2.snoc ⟨p, rfl, R⟩
      · rw [if_neg (fun z => k (by injection z with z; exact Int.ofNat.inj z))]
        refine ⟨us, rfl, ?_⟩
        rw [filter_snoc _ hr, if_neg (by simp [k]), List.append_nil]
        exact al2
    · rintro H2 ⟨us, rfl, al2⟩
      rw [al.len, List.take_length] at al2
      exact h _ _ _ (same_upd hD) upd_same (al2.mono fun _ _ q => q.same (same_upd hD))
/-- what is covered -/
def Cov (kvs : List (Key × V)) (g : Nat → Bool) : Prop := ∀ s : Nat, (valV kvs (Sum.inl ((s : Nat) : Int))).isSome = g s
theorem Cov.put {kvs : List (Key × V)} {g : Nat → Bool} (h : Cov kvs g) (t : Nat) : Cov (putK kvs (Sum.inl ((t : Nat) : Int)) (.bl true)) fun s => g s || decide (s = t) := fun s => by
  rw [valV_put]
  by_cases e : s = t
  · subst e
    rw [if_pos rfl]
    simp
  · rw [if_neg (by intro z; injection z with z; exact e (Int.ofNat.inj z)), h s]
    simp [e]
theorem sc_heads_of : FnScope ["records", "covered", "record", "stamp"] ["records"] (defScope s_heads_of) := ⟨rfl, rfl, rfl, by decide +kernel, rfl, by decide +kernel, by decide +kernel⟩
theorem ok_heads_of (T : Tx K mg) : OkF P w K mg base 1 "heads_of" ["records"] (spRecs K headsM) := by
  refine okf (d := d_heads_of) 38 38 (N := ["records", "covered", "record", "stamp"]) T rfl rfl rfl rfl rfl sc_heads_of (fun _ _ _ _ _ _ us hl => match us, hl with | [_], _ => rfl) (fun vs H Q E h => ?_) (fun f cdv A outer s H vs Q E hr h => ?_)
  · obtain ⟨l, ws, rs, rfl, hS, al, few, ov, h⟩ := h
    rfl
  · obtain ⟨l, ws, rs, rfl, hS, al, few, ov, h⟩ := h
    have hu := hu_of hr
    refine ⟨_, (pss_cons (ps_set (i := 1) sc_heads_of.nd rfl (Or.inr rfl) pe_dnewK)
      (pss_cons (ps_for PassesOwn.never rfl (pi_list (pv 0)) (pg_name (i := 2) sc_heads_of.nd rfl (Or.inl rfl))
        (pss_one (ps_for PassesOwn.never rfl (pi_list (pe_fld (pv 2) rfl)) (pg_name (i := 3) sc_heads_of.nd rfl (Or.inl rfl))
        (pss_one (ps_dput hu (pv 1) (pv 3) pe_bl rfl)))))
      (pss_one (ps_ret (pe_lc (own := [("record", 2)]) (g := gName 2) (tt := (tAnd (tTest (tOp rNe (tFld K (tVar 2) "kind") (tC (V.int 4)))) (tB (tDNotIn (tFld K (tVar 2) "stamp") (tVar 1))))) (te := (tVar 2)) (by rfl) sc_heads_of.nd (pi_list (pv 0)) (blkOk_by (own := [("record", 2)]) (N := ["records", "covered", "record", "stamp"]) (sc := (defScope s_heads_of)) (by decide +kernel)) (fun _ _ _ _ _ => pg_name (i := 2) sc_heads_of.nd rfl (Or.inl rfl)) (fun _ _ _ _ _ => by exact (pts_one (PW.pt (pw_and (pt_cmpR op_ne (pe_fld (pv 2) rfl) (pe_gi T.i_REMARK_records) (nomark _)) (pw_and1 (pt_cmp (pc_dnotin hu (pe_fld (pv 2) rfl) (pv 1)))))))) (fun _ _ _ _ _ => by exact ((pv 2)))))))), ?_⟩
    simp [tSeq, tIfS, tTest, tOp, rEq, rNe, rI0, rI, tVar, tC, tRet, tNext, L2.start, scal_ii, scal_nn, scal_in, scal_ni, scal_bb, line1, line2, line3, line7, tAnd, tOr, tNot, CDiv, CMul, tAsg, gName, tAndV, tOrV, tNotV, tCall, tCons, tNil, tCB, rU, tUn, tIf, tB, cx_K, cx_noxK, rIxL, rIxT, tDNewK]
    intro d hd
    have s1 : ∀ kvs, Same H (upd H d (.dK kvs)) := fun kvs => same_upd hd
    refine ⟨_, rfl, l, rfl, ⟨_, (s1 _).seq hS⟩, for_list (K := K) (a := l) (xs := ws) (fun i σ H2 => ∃ (kvs : List (Key × V)) (u v : Option V), σ = [some (.ref l), some (.ref d), u, v] ∧ H2 = upd H d (.dK kvs) ∧ kvs.length ≤ 16 * i ∧ Cov kvs fun s => (rs.take i).any fun x => x.over.contains s)
      ⟨[], none, none, rfl, rfl, Nat.le_refl _, fun s => rfl⟩ (fun i σ H2 _ ⟨kvs, _, _, _, e, _⟩ => by rw [e]; exact (s1 _).seq hS) ?_ ?_⟩
    · rintro i x σ H2 hi ⟨kvs, u, v, rfl, rfl, lk, cv⟩
      obtain ⟨r, hr, p, rfl, R⟩ := al.at hi
      obtain ⟨e1, e2, e3, e4, e5, c1, c2, c3, _⟩ := R.ex
      have il := (List.getElem?_eq_some_iff.mp hr).1
      have o16 := ov r (List.mem_of_getElem? hr)
      refine ⟨_, rfl, _, _, _, _, _, rfl, s1 _ _ _ c1, T.c_Record, T.n_Record_over, recF_over _ _ _ _ _ _ _ _, e3, rfl, ⟨_, (s1 _).seq (SqL.of c3)⟩, for_list (K := K) (a := e3) (xs := nv r.over)
        (fun k σ H2 => ∃ (kvs : List (Key × V)) (v : Option V), σ = [some (.ref l), some (.ref d), some (.ref p), v] ∧ H2 = upd H d (.dK kvs) ∧ kvs.length ≤ 16 * i + k ∧ Cov kvs fun s => (rs.take i).any (fun x => x.over.contains s) || (r.over.take k).contains s)
        ⟨kvs, v, rfl, rfl, lk, fun s => by rw [cv s]; simp⟩ (fun k σ H2 _ ⟨kvs, _, _, e, _⟩ => by rw [e]; exact (s1 _).seq (SqL.of c3)) ?_ ?_⟩
      · rintro k y σ H2 hk ⟨kvs, v, rfl, rfl, lk, cv⟩
        obtain ⟨t, ht, rfl⟩ : ∃ t, r.over[k]? = some t ∧ y = .int ((t : Nat) : Int) := by
          unfold nv at hk
          rw [List.getElem?_map, List.getElem?_map] at hk
          cases q : r.over[k]? with
          | none => rw [q] at hk; cases hk
          | some t =>
            rw [q] at hk
            exact ⟨t, rfl, (Option.some.inj hk).symm⟩
        have kl := (List.getElem?_eq_some_iff.mp ht).1
        simp [tSeq, tIfS, tTest, tOp, rEq, rNe, rI0, rI, tVar, tC, tRet, tNext, L2.start, scal_ii, scal_nn, scal_in, scal_ni, scal_bb, line1, line2, line3, line7, tAnd, tOr, tNot, CDiv, CMul, tAsg, gName, tAndV, tOrV, tNotV, tCall, tCons, tNil, tCB, rU, tUn, tIf, tB, cx_K, cx_noxK, rIxL, rIxT, sDPut]
        refine ⟨_, DPut.k (k := Sum.inl ((t : Nat) : Int)) upd_same (Nat.lt_of_le_of_lt (show kvs.length ≤ 10000 by omega) (by decide)), putK kvs (Sum.inl ((t : Nat) : Int)) (.bl true), ?_, ?_, ?_⟩
        · rw [upd_upd]
        · have := length_putK kvs (Sum.inl ((t : Nat) : Int)) (.bl true)
          omega
        · have z := cv.put t
          intro s
          rw [z s, take_snoc ht, Bool.eq_iff_iff]
          simp [or_assoc]
      · rintro σ H2 ⟨kvs, v, rfl, rfl, lk, cv⟩
        refine ⟨kvs, _, _, rfl, rfl, by rw [nv_len] at lk; omega, fun s => ?_⟩
        rw [cv s, nv_len, List.take_length, take_snoc hr]
        show _ = List.any _ _
        rw [List.any_append]
        simp
    · rintro σ H2 ⟨kvs, u, v, rfl, rfl, lk, cv⟩
      have cv : Cov kvs fun s => rs.any fun x => x.over.contains s := by
        rw [al.len, List.take_length] at cv
        exact cv
      have hdc : upd H d (.dK kvs) d = some (.dK kvs) := upd_same
      have sc := s1 kvs
      generalize upd H d (.dK kvs) = Hc at *
      refine ⟨_, rfl, l, rfl, ⟨_, sc.seq hS⟩, fun D hD => lc_list (K := K) (a := l) (xs := ws) (fun i H2 => ∃ us, H2 = upd Hc D (.lst us) ∧ All2 (RecV K Hc) us ((rs.take i).filter (isHead rs))) ⟨[], rfl, .nil⟩ (fun i H2 _ ⟨us, e, _⟩ => by rw [e]; exact (same_upd hD).seq (sc.seq hS)) ?_ ?_⟩
      · rintro i x H2 hi ⟨us, rfl, al2⟩
        obtain ⟨r, hr, p, rfl, R⟩ := al.at hi
        have R := R.same sc
        obtain ⟨e1, e2, e3, e4, e5, c1, _⟩ := R.ex
        have s2 := same_upd (o := .lst us) hD
        have stop : isHead rs r = false → ∃ us', upd Hc D (.lst us) = upd Hc D (.lst us') ∧ All2 (RecV K Hc) us' ((rs.take (i + 1)).filter (isHead rs)) := fun q => by
          refine ⟨us, rfl, ?_⟩
          rw [filter_snoc _ hr, if_neg (by rw [q]; decide), List.append_nil]
          exact al2
        refine ⟨rfl, ?_⟩
        simp [tSeq, tIfS, tTest, tOp, rEq, rNe, rI0, rI, tVar, tC, tRet, tNext, L2.start, scal_ii, scal_nn, scal_in, scal_ni, scal_bb, line1, line2, line3, line7, tAnd, tOr, tNot, CDiv, CMul, tAsg, gName, tAndV, tOrV, tNotV, tCall, tCons, tNil, tCB, rU, tUn, tIf, tB, cx_K, cx_noxK, rIxL, rIxT, tFld, wipe, tDNotIn]
        refine ⟨_, _, _, s2 _ _ c1, T.c_Record, T.n_Record_kind, _, recF_kind _ _ _ _ _ _ _ _, rfl, ?_⟩
        by_cases k : r.kind = 4
        · refine .inl ⟨by rw [k]; rfl, ?_⟩
          exact stop (by unfold isHead; simp [k])
        · refine .inr ⟨fun z => k (by injection z with z; exact Int.ofNat.inj z), ?_⟩
          refine ⟨_, _, _, s2 _ _ c1, T.c_Record, T.n_Record_stamp, _, recF_stamp _ _ _ _ _ _ _ _, _, DGet.k (k := Sum.inl ((r.stamp : Nat) : Int)) (s2 _ _ hdc), ?_⟩
          have cs := cv r.stamp
          cases q : valV kvs (Sum.inl ((r.stamp : Nat) : Int)) with
          | none =>
            rw [q] at cs
            have hh : isHead rs r = true := by
              have cs2 : false = rs.any fun x => x.over.contains r.stamp := cs
              unfold isHead
              rw [← cs2]
              simp [k]
            rw [if_pos rfl]
            refine ⟨us, upd_same, ?_, us ++ [.ref p], ?_, ?_⟩
            · rw [al2.len]
              exact filter_few few
            · rw [upd_upd]
            · rw [filter_snoc _ hr, if_pos hh]
              exact al2.snoc ⟨p, rfl, R⟩
          | some y =>
            rw [q] at cs
            rw [if_neg (by intro z; cases z)]
            have cs2 : true = rs.any fun x => x.over.contains r.stamp := cs
            exact stop (by unfold isHead; rw [← cs2]; simp)
      · rintro H2 ⟨us, rfl, al2⟩
        rw [al.len, List.take_length] at al2
        exact h _ _ _ (sc.trans (same_upd hD)) upd_same (al2.mono fun _ _ q => q.same (same_upd hD))
theorem sc_in_conflict : FnScope ["heads"] ["heads"] (defScope s_in_conflict) := ⟨rfl, rfl, rfl, by decide +kernel, rfl, by decide +kernel, by decide +kernel⟩
theorem ok_in_conflict (T : Tx K mg) : OkF P w K mg base 1 "in_conflict" ["heads"] (fun vs H Q _ => ∃ (l : Addr) (ws : List V), vs = [.ref l] ∧ SqL K H l ws ∧ Q (.bl (decide (2 ≤ ws.length))) H) := by
  refine okf (d := d_in_conflict) 40 40 (N := ["heads"]) T rfl rfl rfl rfl rfl sc_in_conflict (fun _ _ _ _ _ _ us hl => match us, hl with | [_], _ => rfl) (fun vs H Q E h => ?_) (fun f cdv A outer s H vs Q E hr h => ?_)
  · obtain ⟨l, ws, rfl, hS, h⟩ := h
    rfl
  · obtain ⟨l, ws, rfl, hS, h⟩ := h
    have hu := hu_of hr
    refine ⟨_, (pss_one (ps_ret (pe_cmpR op_ge (pe_callB call_len_seq (by rfl) T.b_len PySem.boot_len (pa_cons (pv 0) pa_nil)) pe_int (nomark _)))), ?_⟩
    simp [tSeq, tIfS, tTest, tOp, rEq, rNe, rI0, rI, tVar, tC, tRet, tNext, L2.start, scal_ii, scal_nn, scal_in, scal_ni, scal_bb, line1, line2, line3, line7, tAnd, tOr, tNot, CDiv, CMul, tAsg, gName, tAndV, tOrV, tNotV, tCall, tCons, tNil, tCB, rU, tUn, tIf, tB, cx_K, cx_noxK, rIxL, rIxT]
    refine ⟨_, .inl hS, ?_⟩
    have e : decide ((2 : Int) ≤ ((ws.length : Nat) : Int)) = decide (2 ≤ ws.length) := by
      rw [Bool.eq_iff_iff, decide_eq_true_eq, decide_eq_true_eq]
      omega
    rw [← e] at h
    exact h
/-- a record or None -/
def RecO (K : PySem.W.Frag) (H : Hp) (v : V) : Option Rec → Prop
  | none => v = .non
  | some r => RecV K H v r
theorem standM_snoc {hs : List Rec} {i : Nat} {r : Rec} (h : hs[i]? = some r) : standM (hs.take (i + 1)) = if r.kind = 3 then standM (hs.take i) else FhWork.better (standM (hs.take i)) r := by
  unfold standM
  rw [filter_snoc _ h, List.foldl_append]
  by_cases k : r.kind = 3
  · rw [if_neg (by simp [k]), if_pos k]
    rfl
  · rw [if_pos (by simp [k]), if_neg k]
    rfl
def spStanding (K : PySem.W.Frag) : Sp := fun vs H Q _ => ∃ (l : Addr) (ws : List V) (hs : List Rec), vs = [.ref l] ∧ SqL K H l ws ∧ All2 (RecV K H) ws hs ∧ ∀ v, RecO K H v (standM hs) → Q v H
theorem sc_standing : FnScope ["heads", "best", "head"] ["heads"] (defScope s_standing) := ⟨rfl, rfl, rfl, by decide +kernel, rfl, by decide +kernel, by decide +kernel⟩
theorem ok_standing (T : Tx K mg) : OkF P w K mg base 1 "standing" ["heads"] (spStanding K) := by
  refine okf (d := d_standing) 41 41 (N := ["heads", "best", "head"]) T rfl rfl rfl rfl rfl sc_standing (fun _ _ _ _ _ _ us hl => match us, hl with | [_], _ => rfl) (fun vs H Q E h => ?_) (fun f cdv A outer s H vs Q E hr h => ?_)
  · obtain ⟨l, ws, hs, rfl, hS, al, h⟩ := h
    rfl
  · obtain ⟨l, ws, hs, rfl, hS, al, h⟩ := h
    have hu := hu_of hr
    refine ⟨_, (pss_cons (ps_set (i := 1) sc_standing.nd rfl (Or.inl rfl) pe_non)
      (pss_cons (ps_for PassesOwn.never rfl (pi_list (pv 0)) (pg_name (i := 2) sc_standing.nd rfl (Or.inl rfl))
        (pss_one (ps_if (PW.pt (pw_and (pt_cmpR op_ne (pe_fld (pv 2) rfl) (pe_gi T.i_TAKING_BACK) (nomark _)) (pw_and1 (PW.pt (pw_or (pt_cmpR op_isN (pv 1) pe_non (nomark _)) (pw_or1 (pt_cmpR op_ge (pe_fld (pv 2) rfl) (pe_fld (pv 1) rfl) (nomark _)))))))) (pss_one (ps_set (i := 1) sc_standing.nd rfl (Or.inl rfl) (pv 2))) pss_nil)))
      (pss_one (ps_ret (pv 1))))), ?_⟩
    simp [tSeq, tIfS, tTest, tOp, rEq, rNe, rI0, rI, tVar, tC, tRet, tNext, L2.start, scal_ii, scal_nn, scal_in, scal_ni, scal_bb, line1, line2, line3, line7, tAnd, tOr, tNot, CDiv, CMul, tAsg, gName, tAndV, tOrV, tNotV, tCall, tCons, tNil, tCB, rU, tUn, tIf, tB, cx_K, cx_noxK, rIxL, rIxT]
    refine ⟨_, rfl, l, rfl, ⟨_, hS⟩, for_list (K := K) (a := l) (xs := ws) (fun i σ H2 => ∃ (v : V) (u : Option V), σ = [some (.ref l), some v, u] ∧ H2 = H ∧ RecO K H v (standM (hs.take i))) ⟨.non, none, rfl, rfl, rfl⟩ (fun i σ H2 _ ⟨_, _, _, e, _⟩ => by rw [e]; exact hS) ?_ ?_⟩
    · rintro i x σ H2 hi ⟨v, u, rfl, rfl, bo⟩
      obtain ⟨r, hr, p, rfl, R⟩ := al.at hi
      obtain ⟨e1, e2, e3, e4, e5, c1, _⟩ := R.ex
      simp [tSeq, tIfS, tTest, tOp, rEq, rNe, rI0, rI, tVar, tC, tRet, tNext, L2.start, scal_ii, scal_nn, scal_in, scal_ni, scal_bb, line1, line2, line3, line7, tAnd, tOr, tNot, CDiv, CMul, tAsg, gName, tAndV, tOrV, tNotV, tCall, tCons, tNil, tCB, rU, tUn, tIf, tB, cx_K, cx_noxK, rIxL, rIxT, tFld]
      refine ⟨_, _, _, c1, T.c_Record, T.n_Record_kind, _, recF_kind _ _ _ _ _ _ _ _, rfl, ?_⟩
      rw [standM_snoc hr]
      by_cases k : r.kind = 3
      · refine .inl ⟨by rw [k]; rfl, ?_⟩
        rw [if_pos k]
        exact bo
      · refine .inr ⟨fun z => k (by injection z with z; exact Int.ofNat.inj z), ?_⟩
        rw [if_neg k]
        cases q : standM (hs.take i) with
        | none =>
          rw [q] at bo
          have bo : v = .non := bo
          rw [if_pos bo]
          exact ⟨p, rfl, R⟩
        | some y =>
          rw [q] at bo
          obtain ⟨py, rfl, Ry⟩ := bo
          obtain ⟨f1, f2, f3, f4, f5, d1, _⟩ := Ry.ex
          rw [if_neg (by intro z; cases z)]
          refine ⟨_, _, _, c1, T.c_Record, T.n_Record_state, _, recF_state _ _ _ _ _ _ _ _, py, rfl, _, _, _, d1, T.c_Record, T.n_Record_state, _, recF_state _ _ _ _ _ _ _ _, _, rfl, _, rfl, ?_⟩
          by_cases c : y.state ≤ r.state
          · rw [if_pos (by omega)]
            show RecO K _ _ (if y.state ≤ r.state then some r else some y)
            rw [if_pos c]
            exact ⟨p, rfl, R⟩
          · rw [if_neg (by omega)]
            show RecO K _ _ (if y.state ≤ r.state then some r else some y)
            rw [if_neg c]
            exact ⟨py, rfl, Ry⟩
    · rintro σ H2 ⟨v, u, rfl, rfl, bo⟩
      rw [al.len, List.take_length] at bo
      exact ⟨_, rfl, h v bo⟩
/-- origin_of(journal, record): the record is in the journal, or a verdict over one of it -/
def OrgOk (j : Journal) (r : Rec) : Prop := r ∈ j ∨ ∃ s y, r.kind = 2 ∧ r.over = [s] ∧ j.at_ s = some y
def spOrigin (K : PySem.W.Frag) : Sp := fun vs H Q _ => ∃ (J d p : Addr) (j : Journal) (r : Rec), vs = [.ref J, .ref p] ∧ JAt K H J d j ∧ RecAt K H p r ∧ OrgOk j r ∧ ∀ q x, RecAt K H q x → Org j r x → x ∈ j → Q (.ref q) H
def OrgInv (K : PySem.W.Frag) (H : Hp) (J p : Addr) (j : Journal) (r : Rec) : Nat → L2.St → Hp → Prop := fun m σ H2 => H2 = H ∧ ∃ (q : Addr) (y : Rec), σ = [some (.ref J), some (.ref p), some (.ref q)] ∧ RecAt K H q y ∧ ((y ∈ j ∧ m = upTo j y.stamp) ∨ (m = j.length + 1 ∧ ∃ s x, y.kind = 2 ∧ y.over = [s] ∧ j.at_ s = some x)) ∧ ∀ x, Org j y x → Org j r x
theorem sc_origin_of : FnScope ["journal", "record", "origin"] ["journal", "record"] (defScope s_origin_of) := ⟨rfl, rfl, rfl, by decide +kernel, rfl, by decide +kernel, by decide +kernel⟩
theorem ok_origin_of (T : Tx K mg) : OkF P w K mg base 1 "origin_of" ["journal", "record"] (spOrigin K) := by
  refine okf (d := d_origin_of) 42 42 (N := ["journal", "record", "origin"]) T rfl rfl rfl rfl rfl sc_origin_of (fun _ _ _ _ _ _ us hl => match us, hl with | [_, _], _ => rfl) (fun vs H Q E h => ?_) (fun f cdv A outer s H vs Q E hr h => ?_)
  · obtain ⟨J, d, p, j, r, rfl, hJ, R, hr', h⟩ := h
    rfl
  · obtain ⟨J, d, p, j, r, rfl, hJ, R, hr', h⟩ := h
    have hu := hu_of hr
    refine ⟨_, (pss_cons (ps_set (i := 2) sc_origin_of.nd rfl (Or.inl rfl) (pv 1))
      (pss_cons (ps_while PassesOwn.never (pt_cmpR op_eq (pe_fld (pv 2) rfl) (pe_gi T.i_VERDICT) (nomark _)) (pss_one (ps_set (i := 2) sc_origin_of.nd rfl (Or.inl rfl) (pe_dget hu (pe_fld (pv 0) rfl) (pe_ix ix_list (pe_fld (pv 2) rfl) pe_int (fun _ _ => rfl)) (fun _ _ => rfl)))))
      (pss_one (ps_ret (pv 2))))), ?_⟩
    simp [tSeq, tIfS, tTest, tOp, rEq, rNe, rI0, rI, tVar, tC, tRet, tNext, L2.start, scal_ii, scal_nn, scal_in, scal_ni, scal_bb, line1, line2, line3, line7, tAnd, tOr, tNot, CDiv, CMul, tAsg, gName, tAndV, tOrV, tNotV, tCall, tCons, tNil, tCB, rU, tUn, tIf, tB, cx_K, cx_noxK, rIxL, rIxT]
    refine ⟨OrgInv K H J p j r, ?_, ?_⟩
    · rcases hr' with z | z
      · exact ⟨_, rfl, p, r, rfl, R, .inl ⟨z, rfl⟩, fun x o => o⟩
      · exact ⟨_, rfl, p, r, rfl, R, .inr ⟨rfl, z⟩, fun x o => o⟩
    rintro m σ H2 ⟨rfl, q, y, rfl, Ry, hy, og⟩
    obtain ⟨e1, e2, e3, e4, e5, c1, c2, c3, _⟩ := Ry.ex
    simp [tSeq, tIfS, tTest, tOp, rEq, rNe, rI0, rI, tVar, tC, tRet, tNext, L2.start, scal_ii, scal_nn, scal_in, scal_ni, scal_bb, line1, line2, line3, line7, tAnd, tOr, tNot, CDiv, CMul, tAsg, gName, tAndV, tOrV, tNotV, tCall, tCons, tNil, tCB, rU, tUn, tIf, tB, cx_K, cx_noxK, rIxL, rIxT, tFld, tDGet]
    refine ⟨_, _, _, c1, T.c_Record, T.n_Record_kind, _, recF_kind _ _ _ _ _ _ _ _, rfl, ?_⟩
    by_cases k : y.kind = 2
    · rw [if_pos (by rw [k]; rfl)]
      obtain ⟨s', x, o1, o2, o4⟩ : ∃ s' x, y.over = [s'] ∧ j.at_ s' = some x ∧ upTo j x.stamp < m := by
        rcases hy with ⟨hy, rfl⟩ | ⟨rfl, s', x, _, o1, o2⟩
        · obtain ⟨s', x, o1, o2, o3, o4⟩ := (hJ.ok.recs y hy).ver k
          exact ⟨s', x, o1, o2, upTo_lt hy o4⟩
        · exact ⟨s', x, o1, o2, Nat.lt_succ_of_le (upTo_le j _)⟩
      obtain ⟨px, kvs, hd, hv, Rx⟩ := hJ.get o2
      obtain ⟨mx, _⟩ := at_mem o2
      obtain ⟨dx, ho⟩ := hJ.ob
      rw [o1] at c3
      refine ⟨OrgInv K H2 J p j r (upTo j x.stamp), fun _ _ z => ⟨_, o4, z⟩, ?_⟩
      refine ⟨_, _, _, ho, T.c_Journal, T.n_Journal_records, _, rfl, _, _, _, c1, T.c_Record, T.n_Record_over, _, recF_over _ _ _ _ _ _ _ _, e3, rfl, _, SqL.of c3, _, atI_nat (j := 0) rfl, d, rfl, .ref px, ?_, ?_⟩
      · have z := DGet.k (k := Sum.inl ((s' : Nat) : Int)) hd
        rw [hv] at z
        exact z
      · exact ⟨rfl, px, x, rfl, Rx, .inl ⟨mx, rfl⟩, fun x' o => og x' (.over k o1 o2 o)⟩
    · rw [if_neg (fun z => k (by injection z with z; exact Int.ofNat.inj z))]
      rcases hy with ⟨hy, _⟩ | ⟨_, _, _, k2, _⟩
      · exact h q y Ry (og y (.here k)) hy
      · exact absurd k2 k
end
end Fj
set_option Elab.async false
set_option linter.all false
set_option maxRecDepth 100000
set_option maxHeartbeats 4000000
namespace Fj
open PySem PySem.Spec PyProof.Rows L2
open Fh (Bytes Piece)
open FhWork (Rec Journal Name)
theorem KeptD.seqT {K : PySem.W.Frag} {H H' : Hp} {d a : Addr} {kvs : List (List Key × V)} {xs : List V} (k : KeptD H H' d) (hd : H d = some (.dT kvs)) (h : SqL K H a xs) : SqL K H' a xs := by
  rcases h with h | h
  · rcases h with h | ⟨o, h⟩
    · exact .inl (.inl (k _ _ h (ne_of h hd (by intro z; cases z))))
    · exact .inl (.inr ⟨o, k _ _ h (ne_of h hd (by intro z; cases z))⟩)
  · exact .inr h
theorem RecAt.keptT {K : PySem.W.Frag} {H H' : Hp} {d : Addr} {kvs : List (List Key × V)} (k : KeptD H H' d) (hd : H d = some (.dT kvs)) {p : Addr} {r : Rec} (h : RecAt K H p r) : RecAt K H' p r := by
  obtain ⟨dx, nm, ov, so, ro, h1, h2, h3, h4, h5⟩ := h.ex
  exact ⟨dx, nm, ov, so, ro, k _ _ h1 (ne_of h1 hd (by intro z; cases z)), k _ _ h2 (ne_of h2 hd (by intro z; cases z)), k _ _ h3 (ne_of h3 hd (by intro z; cases z)), k _ _ h4 (ne_of h4 hd (by intro z; cases z)), k _ _ h5 (ne_of h5 hd (by intro z; cases z))⟩
theorem RecV.keptT {K : PySem.W.Frag} {H H' : Hp} {d : Addr} {kvs : List (List Key × V)} (k : KeptD H H' d) (hd : H d = some (.dT kvs)) {v : V} {r : Rec} (h : RecV K H v r) : RecV K H' v r := by
  obtain ⟨p, e, h⟩ := h
  exact ⟨p, e, h.keptT k hd⟩
/-- a segment's name as a key -/
def nk (n : Name) : List Key := pk (((n.1 : Nat) : Int), ((n.2 : Nat) : Int))
theorem nk_inj {m n : Name} (h : nk m = nk n) : m = n := by
  obtain ⟨a, b⟩ := m
  obtain ⟨c, d⟩ := n
  unfold nk pk at h
  injection h with h1 h2
  injection h2 with h2 _
  injection h1 with h1
  injection h2 with h2
  have e1 : a = c := Int.ofNat.inj h1
  have e2 : b = d := Int.ofNat.inj h2
  rw [e1, e2]
theorem nk_map (n : Name) : (nk n).map kV = [.int ((n.1 : Nat) : Int), .int ((n.2 : Nat) : Int)] := rfl
def sents (ns : List (Name × Addr)) : List (List Key × V) := ns.map fun e => (nk e.1, V.ref e.2)
theorem sents_some {n : Name} {l : Addr} : ∀ {ns : List (Name × Addr)}, (ns.map (·.1)).Nodup → (n, l) ∈ ns → valV (sents ns) (nk n) = some (.ref l)
  | [], _, h => by cases h
  | e :: ns, nd, h => by
    rw [List.map_cons, List.nodup_cons] at nd
    show valV ((nk e.1, V.ref e.2) :: sents ns) _ = _
    rcases List.mem_cons.mp h with z | z
    · rw [← z, valV_pos rfl]
    · rw [valV_neg (fun y => nd.1 (by rw [nk_inj y]; exact List.mem_map_of_mem (f := (·.1)) z))]
      exact sents_some nd.2 z
theorem sents_none {n : Name} : ∀ {ns : List (Name × Addr)}, n ∉ ns.map (·.1) → valV (sents ns) (nk n) = none
  | [], _ => rfl
  | e :: ns, h => by
    rw [List.map_cons, List.mem_cons, not_or] at h
    show valV ((nk e.1, V.ref e.2) :: sents ns) _ = _
    rw [valV_neg (fun y => h.1 (nk_inj y).symm)]
    exact sents_none h.2
/-- the records of each segment, by its name: H1 as it was, H2 now -/
structure Segs (K : PySem.W.Frag) (H1 H2 : Hp) (d : Addr) (ns : List (Name × Addr)) (rs : List Rec) : Prop where
  dc : H2 d = some (.dT (sents ns))
  nd : (ns.map (·.1)).Nodup
  na : (ns.map (·.2)).Nodup
  fresh : ∀ e ∈ ns, H1 e.2 = none
  ls : ∀ e ∈ ns, ∃ ws, H2 e.2 = some (.lst ws) ∧ All2 (RecV K H1) ws (rs.filter fun r => r.name == e.1)
  mem : ∀ r ∈ rs, r.name ∈ ns.map (·.1)
  back : ∀ n ∈ ns.map (·.1), ∃ r ∈ rs, r.name = n
/-- .. in the end -/
structure SegD (K : PySem.W.Frag) (H : Hp) (d : Addr) (ns : List (Name × Addr)) (rs : List Rec) : Prop where
  dc : H d = some (.dT (sents ns))
  nd : (ns.map (·.1)).Nodup
  ls : ∀ e ∈ ns, ∃ ws, H e.2 = some (.lst ws) ∧ All2 (RecV K H) ws (rs.filter fun r => r.name == e.1)
  mem : ∀ r ∈ rs, r.name ∈ ns.map (·.1)
  back : ∀ n ∈ ns.map (·.1), ∃ r ∈ rs, r.name = n
theorem names_few {ns : List (Name × Addr)} {rs : List Rec} (nd : (ns.map (·.1)).Nodup) (back : ∀ n ∈ ns.map (·.1), ∃ r ∈ rs, r.name = n) : ns.length ≤ rs.length := by
  have z := sub_len (a := ns.map (·.1)) (b := rs.map (·.name)) nd fun n hn => by
    obtain ⟨r, h1, h2⟩ := back n hn
    rw [← h2]
    exact List.mem_map_of_mem h1
  rw [List.length_map, List.length_map] at z
  exact z
theorem nodup_inj {α β : Type} {f : α → β} : ∀ {l : List α}, (l.map f).Nodup → ∀ {a b : α}, a ∈ l → b ∈ l → f a = f b → a = b
  | [], _, a, b, h, _, _ => by cases h
  | x :: l, nd, a, b, ha, hb, e => by
    rw [List.map_cons, List.nodup_cons] at nd
    rcases List.mem_cons.mp ha with h1 | h1
    · rcases List.mem_cons.mp hb with h2 | h2
      · rw [h1, h2]
      · exact absurd (by rw [← h1, e]; exact List.mem_map_of_mem h2) nd.1
    · rcases List.mem_cons.mp hb with h2 | h2
      · exact absurd (by rw [← h2, ← e]; exact List.mem_map_of_mem h1) nd.1
      · exact nodup_inj nd.2 h1 h2 e
section
variable {P : Program} {w : World} {K : PySem.W.Frag} {mg : Str → Option Value} {base : Heap}
def spBySeg (K : PySem.W.Frag) : Sp := fun vs H Q _ => ∃ (J d : Addr) (j : Journal), vs = [.ref J] ∧ JAt K H J d j ∧ ∀ H' e ns, Same H H' → SegD K H' e ns j → Q (.ref e) H'
theorem sc_records_by_segment : FnScope ["journal", "segments", "record"] ["journal"] (defScope s_records_by_segment) := ⟨rfl, rfl, rfl, by decide +kernel, rfl, by decide +kernel, by decide +kernel⟩
theorem ok_records_by_segment (T : Tx K mg) : OkF P w K mg base 2 "records_by_segment" ["journal"] (spBySeg K) := by
  refine okf (d := d_records_by_segment) 36 36 (N := ["journal", "segments", "record"]) T rfl rfl rfl rfl rfl sc_records_by_segment (fun _ _ _ _ _ _ us hl => match us, hl with | [_], _ => rfl) (fun vs H Q E h => ?_) (fun f cdv A outer s H vs Q E hr h => ?_)
  · obtain ⟨J, dj, j, rfl, hJ, h⟩ := h
    rfl
  · obtain ⟨J, dj, j, rfl, hJ, h⟩ := h
    have hu := hu_of hr
    refine ⟨_, (pss_cons (ps_set (i := 1) sc_records_by_segment.nd rfl (Or.inl rfl) pe_dnewT)
      (pss_cons (ps_for PassesOwn.never rfl (pi_list (pe_meth0 (pv 0) T.c_Journal T.m_Journal_ordered (ok_Journal_ordered T) (hr.mono (by decide)) (b_Journal_ordered T) .nil pass0)) (pg_name (i := 2) sc_records_by_segment.nd rfl (Or.inl rfl))
        (pss_one (ps_expr (pe_bm PySem.F.plainAttrs_list PySem.F.slot_list_append PySem.F.type_list_append mt_append (pe_dsetT hu (pv 1) (pe_fld (pv 2) rfl) (pe_lst pa_nil) ⟨rfl, rfl, rfl, rfl⟩) (pa_cons (pv 2) pa_nil)))))
      (pss_one (ps_ret (pv 1))))), ?_⟩
    simp [tSeq, tIfS, tTest, tOp, rEq, rNe, rI0, rI, tVar, tC, tRet, tNext, L2.start, scal_ii, scal_nn, scal_in, scal_ni, scal_bb, line1, line2, line3, line7, tAnd, tOr, tNot, CDiv, CMul, tAsg, gName, tAndV, tOrV, tNotV, tCall, tCons, tNil, tCB, rU, tUn, tIf, tB, cx_K, cx_noxK, rIxL, rIxT, tDNewT]
    intro d hd
    obtain ⟨dx, ho⟩ := hJ.ob
    have s0 := same_upd (o := .dT []) hd
    refine ⟨_, rfl, J, dx, _, rfl, s0 _ _ ho, rfl, J, dj, j, rfl, hJ.same s0, fun H1 l ws s1 hl al => ?_⟩
    have hd1 : H1 d = some (.dT []) := s1 _ _ upd_same
    refine ⟨l, rfl, ⟨_, SqL.of hl⟩, for_list (K := K) (a := l) (xs := ws) (fun i σ H2 => ∃ (ns : List (Name × Addr)) (u : Option V), σ = [some (.ref J), some (.ref d), u] ∧ KeptD H1 H2 d ∧ Segs K H1 H2 d ns (j.take i))
      ⟨[], none, rfl, fun b o e _ => e, hd1, .nil, .nil, by simp, by simp, by simp, by simp⟩ (fun i σ H2 _ ⟨_, _, _, k, _⟩ => SqL.of (k _ _ hl (ne_of hl hd1 (by intro z; cases z)))) ?_ ?_⟩
    · rintro i x σ H2 hi ⟨ns, u, rfl, k, S⟩
      obtain ⟨r, hr, p, rfl, R⟩ := al.at hi
      obtain ⟨e1, e2, e3, e4, e5, c1, c2, _⟩ := (R.keptT k hd1).ex
      have few := hJ.ok.few
      have nf := names_few S.nd S.back
      rw [List.length_take] at nf
      refine ⟨_, rfl, d, rfl, .inr ⟨_, .inl S.dc⟩, _, rfl, _, _, _, _, _, rfl, c1, T.c_Record, T.n_Record_name, recF_name _ _ _ _ _ _ _ _, Nat.zero_le _, fun q hq => ?_⟩
      have sq := same_upd (o := .lst []) hq
      refine ⟨sents ns, nk r.name, e2, sq _ _ S.dc, rfl, sq _ _ c2, ?_, fun v hv => ?_, fun hv => ?_⟩
      · unfold sents
        rw [List.length_map]
        exact Nat.lt_of_le_of_lt (show ns.length ≤ 256 by omega) (by decide)
      · have hin : r.name ∈ ns.map (·.1) := by
          rcases Classical.em (r.name ∈ ns.map (·.1)) with z | z
          · exact z
          · rw [sents_none z] at hv
            cases hv
        obtain ⟨e, he, en⟩ := List.mem_map.mp hin
        have hv2 := sents_some (n := r.name) (l := e.2) S.nd (by rw [← en]; exact he)
        rw [hv2] at hv
        obtain rfl := Option.some.inj hv
        obtain ⟨vs, g1, g2⟩ := S.ls e he
        refine ⟨.inl ⟨rfl, _, SqL.of (sq _ _ g1)⟩, _, rfl, e.2, vs, _, rfl, rfl, sq _ _ g1, ?_, ?_⟩
        · rw [g2.len]
          exact filter_few few
        · have fe := S.fresh e he
          refine ⟨ns, _, rfl, fun b o z hb => ?_, ?_, S.nd, S.na, S.fresh, fun e' he' => ?_, fun r' hr' => ?_, fun n hn => ?_⟩
          · rw [upd_ne (ne_of_none z fe)]
            exact sq _ _ (k _ _ z hb)
          · rw [upd_ne (ne_of S.dc g1 (by intro z; cases z))]
            exact sq _ _ S.dc
          · by_cases ee : e' = e
            · subst ee
              refine ⟨vs ++ [.ref p], upd_same, ?_⟩
              rw [filter_snoc _ hr, if_pos (by rw [← en]; simp)]
              exact g2.snoc ⟨p, rfl, R⟩
            · obtain ⟨vs', g1', g2'⟩ := S.ls e' he'
              have na : e'.2 ≠ e.2 := fun z => ee (nodup_inj S.na he' he z)
              refine ⟨vs', by rw [upd_ne na]; exact sq _ _ g1', ?_⟩
              have nn : ¬ (r.name == e'.1) = true := fun z => ee (nodup_inj S.nd he' he (by rw [← eq_of_beq z, en]))
              rw [filter_snoc _ hr, if_neg nn, List.append_nil]
              exact g2'
          · rw [take_snoc hr] at hr'
            rcases List.mem_append.mp hr' with z | z
            · exact S.mem r' z
            · simp at z
              rw [z]
              exact hin
          · obtain ⟨r', z1, z2⟩ := S.back n hn
            exact ⟨r', by rw [take_snoc hr]; exact List.mem_append_left _ z1, z2⟩
      · have hout : r.name ∉ ns.map (·.1) := fun z => by
          obtain ⟨e, he, en⟩ := List.mem_map.mp z
          rw [sents_some (n := r.name) (l := e.2) S.nd (by rw [← en]; exact he)] at hv
          cases hv
        have qd : q ≠ d := (ne_of_none S.dc hq).symm
        have hq4 : upd (upd H2 q (.lst [])) d (.dT (putK (sents ns) (nk r.name) (.ref q))) q = some (.lst []) := by rw [upd_ne qd, upd_same]
        have fq : H1 q = none := by
          cases z : H1 q with
          | none => rfl
          | some o =>
            rw [k _ _ z qd] at hq
            cases hq
        refine ⟨.inl ⟨rfl, _, SqL.of hq4⟩, _, rfl, q, [], _, rfl, rfl, hq4, by decide, ?_⟩
        have ed : putK (sents ns) (nk r.name) (.ref q) = sents (ns ++ [(r.name, q)]) := by
          rw [putK_new _ hv]
          unfold sents
          rw [List.map_append]
          rfl
        have nin : ∀ e ∈ ns, e.2 ≠ q := fun e he z => by
          obtain ⟨vs, g1, _⟩ := S.ls e he
          rw [z, hq] at g1
          cases g1
        refine ⟨ns ++ [(r.name, q)], _, rfl, fun b o z hb => ?_, ?_, ?_, ?_, fun e he => ?_, fun e he => ?_, fun r' hr' => ?_, fun n hn => ?_⟩
        · rw [upd_ne (ne_of_none z fq), upd_ne hb]
          exact sq _ _ (k _ _ z hb)
        · rw [upd_ne qd.symm, upd_same, ed]
        · rw [List.map_append]
          exact nodup_snoc S.nd hout
        · rw [List.map_append]
          refine nodup_snoc S.na fun z => ?_
          obtain ⟨e, he, en⟩ := List.mem_map.mp z
          exact nin e he en
        · rcases List.mem_append.mp he with z | z
          · exact S.fresh e z
          · simp at z
            rw [z]
            exact fq
        · rcases List.mem_append.mp he with z | z
          · obtain ⟨vs, g1, g2⟩ := S.ls e z
            refine ⟨vs, ?_, ?_⟩
            · rw [upd_ne (nin e z), upd_ne (ne_of g1 S.dc (by intro y; cases y))]
              exact sq _ _ g1
            · have nn : ¬ (r.name == e.1) = true := fun y => hout (by rw [eq_of_beq y]; exact List.mem_map_of_mem (f := (·.1)) z)
              rw [filter_snoc _ hr, if_neg nn, List.append_nil]
              exact g2
          · simp at z
            subst z
            refine ⟨[.ref p], upd_same, ?_⟩
            have none0 : (j.take i).filter (fun r' => r'.name == r.name) = [] := by
              rw [List.filter_eq_nil_iff]
              intro r' hr' y
              exact hout (by rw [← eq_of_beq y]; exact S.mem r' hr')
            rw [filter_snoc _ hr, none0, if_pos (by simp)]
            exact .cons ⟨p, rfl, R⟩ .nil
        · rw [List.map_append]
          rw [take_snoc hr] at hr'
          rcases List.mem_append.mp hr' with z | z
          · exact List.mem_append_left _ (S.mem r' z)
          · simp at z
            rw [z]
            exact List.mem_append_right _ (by simp)
        · rw [List.map_append] at hn
          rcases List.mem_append.mp hn with z | z
          · obtain ⟨r', z1, z2⟩ := S.back n z
            exact ⟨r', by rw [take_snoc hr]; exact List.mem_append_left _ z1, z2⟩
          · simp at z
            exact ⟨r, by rw [take_snoc hr]; simp, z.symm⟩
    · rintro σ H2 ⟨ns, u, rfl, k, S⟩
      rw [al.len, List.take_length] at S
      refine ⟨_, rfl, h _ _ ns (fun b o e => k _ _ (s1 _ _ (s0 _ _ e)) (ne_of_none e hd)) ⟨S.dc, S.nd, fun e he => ?_, S.mem, S.back⟩⟩
      obtain ⟨vs, g1, g2⟩ := S.ls e he
      exact ⟨vs, g1, g2.mono fun _ _ q => q.keptT k hd1⟩
/-- records_of(journal, name) -/
def spRecsOf (K : PySem.W.Frag) : Sp := fun vs H Q _ => ∃ (J d nm : Addr) (j : Journal) (n : Name), vs = [.ref J, .ref nm] ∧ JAt K H J d j ∧ H nm = some (.tup [.int (n.1 : Nat), .int (n.2 : Nat)]) ∧ GivesR K H (segOf j n) Q
theorem sc_records_of : FnScope ["journal", "name"] ["journal", "name"] (defScope s_records_of) := ⟨rfl, rfl, rfl, by decide +kernel, rfl, by decide +kernel, by decide +kernel⟩
theorem ok_records_of (T : Tx K mg) : OkF P w K mg base 3 "records_of" ["journal", "name"] (spRecsOf K) := by
  refine okf (d := d_records_of) 37 37 (N := ["journal", "name"]) T rfl rfl rfl rfl rfl sc_records_of (fun _ _ _ _ _ _ us hl => match us, hl with | [_, _], _ => rfl) (fun vs H Q E h => ?_) (fun f cdv A outer s H vs Q E hr h => ?_)
  · obtain ⟨J, dj, nm, j, n, rfl, hJ, hn, h⟩ := h
    rfl
  · obtain ⟨J, dj, nm, j, n, rfl, hJ, hn, h⟩ := h
    have hu := hu_of hr
    refine ⟨_, (pss_one (ps_ret (pe_dget2 hu (pe_callF (ok_records_by_segment T) (hr.mono (by decide)) (pa_cons (pv 0) pa_nil)) (pv 1) (pe_lst pa_nil) ⟨rfl, rfl, rfl, rfl⟩))), ?_⟩
    refine ⟨_, rfl, J, dj, j, rfl, hJ, fun H1 e ns s1 S => ?_⟩
    refine ⟨e, rfl, .inr ⟨_, .inl S.dc⟩, _, rfl, Nat.zero_le _, fun q hq => ?_⟩
    have sq := same_upd (o := .lst []) hq
    refine ⟨_, DGet.t (k := nk n) (sq _ _ S.dc) (sq _ _ (s1 _ _ hn)), ?_⟩
    rcases Classical.em (n ∈ ns.map (·.1)) with c | c
    · obtain ⟨e', he, en⟩ := List.mem_map.mp c
      rw [sents_some (n := n) (l := e'.2) S.nd (by rw [← en]; exact he)]
      obtain ⟨ws, g1, g2⟩ := S.ls e' he
      rw [en] at g2
      exact h _ _ ws (s1.trans sq) (sq _ _ g1) (g2.mono fun _ _ z => z.same sq)
    · rw [sents_none c]
      refine h _ _ [] (s1.trans sq) upd_same ?_
      have e0 : segOf j n = [] := by
        unfold segOf
        rw [List.filter_eq_nil_iff]
        intro r hr z
        exact c (by rw [← eq_of_beq z]; exact S.mem r hr)
      rw [e0]
      exact .nil
end
end Fj
set_option Elab.async false
set_option linter.all false
set_option maxRecDepth 200000
set_option maxHeartbeats 4000000
namespace Fj
open PySem PySem.Spec PyProof.Rows L2
open Fh (Bytes Piece)
open FhWork (Rec Journal Name)
theorem line4 : 4 ≤ sizeLine := by decide
section
variable {P : Program} {w : World} {K : PySem.W.Frag} {mg : Str → Option Value} {base : Heap}
def stateOk (k s : Nat) : Bool := if k = 1 then decide (1 ≤ s ∧ s ≤ 3) else if k = 2 then decide (1 ≤ s ∧ s ≤ 4) else decide (s = 0)
def spStateOk : Sp := fun vs H Q _ => ∃ k s : Nat, vs = [.int (k : Nat), .int (s : Nat)] ∧ Q (.bl (stateOk k s)) H
theorem sc_state_may_be : FnScope ["kind", "state"] ["kind", "state"] (defScope s_state_may_be) := ⟨rfl, rfl, rfl, by decide +kernel, rfl, by decide +kernel, by decide +kernel⟩
theorem ok_state_may_be (T : Tx K mg) : OkF P w K mg base 1 "state_may_be" ["kind", "state"] spStateOk := by
  refine okf (d := d_state_may_be) 5 5 (N := ["kind", "state"]) T rfl rfl rfl rfl rfl sc_state_may_be (fun _ _ _ _ _ _ us hl => match us, hl with | [_, _], _ => rfl) (fun vs H Q E h => ?_) (fun f cdv A outer s H vs Q E hr h => ?_)
  · obtain ⟨k, s', rfl, h⟩ := h
    rfl
  · obtain ⟨k, s', rfl, h⟩ := h
    have hu := hu_of hr
    refine ⟨_, (pss_cons (ps_if (pt_cmpR op_eq (pv 0) (pe_gi T.i_TARGET) (nomark _)) (pss_one (ps_ret (pe_and (pe_cmpR op_le pe_int (pv 1) (nomark _)) (pe_one (pe_cmpR op_lt (pv 1) (pe_gi T.i_APPROVED) (nomark _)))))) pss_nil)
      (pss_cons (ps_if (pt_cmpR op_eq (pv 0) (pe_gi T.i_VERDICT) (nomark _)) (pss_one (ps_ret (pe_and (pe_cmpR op_le pe_int (pv 1) (nomark _)) (pe_one (pe_cmpR op_le (pv 1) (pe_gi T.i_APPROVED) (nomark _)))))) pss_nil)
      (pss_one (ps_ret (pe_cmpR op_eq (pv 1) pe_int (nomark _)))))), ?_⟩
    simp [tSeq, tIfS, tTest, tOp, rEq, rNe, rI0, rI, tVar, tC, tRet, tNext, L2.start, scal_ii, scal_nn, scal_in, scal_ni, scal_bb, line1, line2, line3, line7, tAnd, tOr, tNot, CDiv, CMul, tAsg, gName, tAndV, tOrV, tNotV, tCall, tCons, tNil, tCB, rU, tUn, tIf, tB, cx_K, cx_noxK, rIxL, rIxT]
    unfold stateOk at h
    by_cases k1 : k = 1
    · rw [if_pos (by omega)]
      rw [if_pos k1] at h
      by_cases c : 1 ≤ s'
      · rw [if_pos (by omega)]
        have e : decide (((s' : Nat) : Int) < 4) = decide (1 ≤ s' ∧ s' ≤ 3) := by
          rw [Bool.eq_iff_iff, decide_eq_true_eq, decide_eq_true_eq]
          omega
        rw [e]
        exact h
      · rw [if_neg (by omega)]
        rw [decide_eq_false (by omega)] at h
        exact h
    · rw [if_neg (by omega)]
      rw [if_neg k1] at h
      by_cases k2 : k = 2
      · rw [if_pos (by omega)]
        rw [if_pos k2] at h
        by_cases c : 1 ≤ s'
        · rw [if_pos (by omega)]
          have e : decide (((s' : Nat) : Int) ≤ 4) = decide (1 ≤ s' ∧ s' ≤ 4) := by
            rw [Bool.eq_iff_iff, decide_eq_true_eq, decide_eq_true_eq]
            omega
          rw [e]
          exact h
        · rw [if_neg (by omega)]
          rw [decide_eq_false (by omega)] at h
          exact h
      · rw [if_neg (by omega)]
        rw [if_neg k2] at h
        have e : decide (((s' : Nat) : Int) = 0) = decide (s' = 0) := by
          rw [Bool.eq_iff_iff, decide_eq_true_eq, decide_eq_true_eq]
          omega
        exact h
def spKind : Sp := fun vs H Q _ => ∃ k : Nat, vs = [.int (k : Nat)] ∧ ∀ H', Same H H' → Q (.bl (decide (1 ≤ k ∧ k ≤ 4))) H'
theorem kind_in (k : Nat) : inV (.int ((k : Nat) : Int)) [.int 1, .int 2, .int 3, .int 4] = decide (1 ≤ k ∧ k ≤ 4) := by
  rw [Bool.eq_iff_iff, decide_eq_true_eq]
  simp [inV, eqV]
  omega
theorem sc_is_kind : FnScope ["kind"] ["kind"] (defScope s_is_kind) := ⟨rfl, rfl, rfl, by decide +kernel, rfl, by decide +kernel, by decide +kernel⟩
theorem ok_is_kind (T : Tx K mg) : OkF P w K mg base 1 "is_kind" ["kind"] spKind := by
  refine okf (d := d_is_kind) 4 4 (N := ["kind"]) T rfl rfl rfl rfl rfl sc_is_kind (fun _ _ _ _ _ _ us hl => match us, hl with | [_], _ => rfl) (fun vs H Q E h => ?_) (fun f cdv A outer s H vs Q E hr h => ?_)
  · obtain ⟨k, rfl, h⟩ := h
    rfl
  · obtain ⟨k, rfl, h⟩ := h
    have hu := hu_of hr
    refine ⟨_, (pss_one (ps_ret (pe_cmpR op_in_seq (pv 0) (pe_tup (pa_cons (pe_gi T.i_TARGET) (pa_cons (pe_gi T.i_VERDICT) (pa_cons (pe_gi T.i_TAKING_BACK) (pa_cons (pe_gi T.i_REMARK_records) pa_nil))))) (by rfl)))), ?_⟩
    simp [tSeq, tIfS, tTest, tOp, rEq, rNe, rI0, rI, tVar, tC, tRet, tNext, L2.start, scal_ii, scal_nn, scal_in, scal_ni, scal_bb, line1, line2, line3, line7, tAnd, tOr, tNot, CDiv, CMul, tAsg, gName, tAndV, tOrV, tNotV, tCall, tCons, tNil, tCB, rU, tUn, tIf, tB, cx_K, cx_noxK, rIxL, rIxT, tTup, rIn]
    refine ⟨line4, fun p hp => ⟨_, .inr (SqT.of upd_same), rfl, by simp [flatV], ?_⟩⟩
    rw [kind_in]
    exact h _ (same_upd hp)
theorem rising_at : ∀ ls : List Nat, FhWork.rising ls = ((List.range (ls.length - 1)).map fun i => decide (ls.getD i 0 < ls.getD (i + 1) 0)).all id
  | [] => rfl
  | [a] => rfl
  | a :: b :: ls => by
    have ih := rising_at (b :: ls)
    show (decide (a < b) && FhWork.rising (b :: ls)) = _
    rw [ih]
    have e : (a :: b :: ls).length - 1 = ((b :: ls).length - 1) + 1 := by simp
    rw [e, List.range_succ_eq_map, List.map_cons, List.all_cons, List.map_map]
    rfl
def spRising (K : PySem.W.Frag) : Sp := fun vs H Q _ => ∃ (a : Addr) (ls : List Nat), vs = [.ref a] ∧ SqL K H a (nv ls) ∧ ls.length ≤ 20000 ∧ ∀ H', Same H H' → Q (.bl (FhWork.rising ls)) H'
theorem nv_at {ls : List Nat} {i : Nat} (h : i < ls.length) : atI (nv ls) ((i : Nat) : Int) = some (.int ((ls.getD i 0 : Nat) : Int)) := by
  refine atI_nat ?_
  unfold nv
  rw [List.getElem?_map, List.getElem?_map, List.getElem?_eq_getElem h]
  simp [h]
def risL (ls : List Nat) (i : Nat) : List Bool := (List.range i).map fun i => decide (ls.getD i 0 < ls.getD (i + 1) 0)
def risV (ls : List Nat) (i : Nat) : List V := (risL ls i).map V.bl
theorem risV_len (ls : List Nat) (i : Nat) : (risV ls i).length = i := by unfold risV risL; simp
theorem sc_is_rising : FnScope ["numbers", "place"] ["numbers"] (defScope s_is_rising) := ⟨rfl, rfl, rfl, by decide +kernel, rfl, by decide +kernel, by decide +kernel⟩
theorem ok_is_rising (T : Tx K mg) : OkF P w K mg base 1 "is_rising" ["numbers"] (spRising K) := by
  refine okf (d := d_is_rising) 7 7 (N := ["numbers", "place"]) T rfl rfl rfl rfl rfl sc_is_rising (fun _ _ _ _ _ _ us hl => match us, hl with | [_], _ => rfl) (fun vs H Q E h => ?_) (fun f cdv A outer s H vs Q E hr h => ?_)
  · obtain ⟨a, ls, rfl, hS, few, h⟩ := h
    rfl
  · obtain ⟨a, ls, rfl, hS, few, h⟩ := h
    have hu := hu_of hr
    refine ⟨_, (pss_one (ps_ret (pe_callB (cr_all rfl) (by rfl) T.b_all (by decide +kernel) (pa_cons (pe_lc (own := [("place", 1)]) (g := gName 1) (tt := tYes) (te := (tOp (rI0 fun i j => V.bl (decide (i < j))) (tOp (rIxL K) (tVar 0) (tVar 1)) (tOp (rIxL K) (tVar 0) (tOp (rI0 fun i j => V.int (i + j)) (tVar 1) (tC (V.int 1)))))) (by rfl) sc_is_rising.nd (pi_range1 (by rfl) T.b_range (pa_cons (pe_op op_sub (pe_callB call_len_seq (by rfl) T.b_len PySem.boot_len (pa_cons (pv 0) pa_nil)) pe_int) pa_nil)) (blkOk_by (own := [("place", 1)]) (N := ["numbers", "place"]) (sc := (defScope s_is_rising)) (by decide +kernel)) (fun _ _ _ _ _ => pg_name (i := 1) sc_is_rising.nd rfl (Or.inl rfl)) (fun _ _ _ _ _ => pts_nil) (fun _ _ _ _ _ => by exact ((pe_cmpR op_lt (pe_ix ix_list (pv 0) (pv 1) (fun _ _ => rfl)) (pe_ix ix_list (pv 0) (pe_op op_add (pv 1) pe_int) (fun _ _ => rfl)) (nomark _))))) pa_nil)))), ?_⟩
    have hn : (((nv ls).length : Nat) - 1 : Int).toNat = ls.length - 1 := by rw [nv_len]; omega
    have nl := nv_len ls
    refine ⟨_, rfl, a, _, rfl, .inl hS, _, _, rfl, rfl, _, rfl, by omega, by omega, fun D hD => lc_range
      (fun i H2 => H2 = upd H D (.lst (risV ls i))) rfl ?_ ?_⟩
    · rintro i H2 hi rfl
      rw [hn] at hi
      have s2 := same_upd (o := .lst (((List.range i).map fun i => decide (ls.getD i 0 < ls.getD (i + 1) 0)).map V.bl)) hD
      refine ⟨rfl, ?_⟩
      simp [tSeq, tIfS, tTest, tOp, rEq, rNe, rI0, rI, tVar, tC, tRet, tNext, L2.start, scal_ii, scal_nn, scal_in, scal_ni, scal_bb, line1, line2, line3, line7, tAnd, tOr, tNot, CDiv, CMul, tAsg, gName, tAndV, tOrV, tNotV, tCall, tCons, tNil, tCB, rU, tUn, tIf, tB, cx_K, cx_noxK, rIxL, rIxT, tYes, wipe]
      refine ⟨_, s2.seq hS, _, nv_at (ls := ls) (i := i) (by omega), _, s2.seq hS, _, nv_at (ls := ls) (i := i + 1) (by omega), _, rfl, _, rfl, _, upd_same, ?_, ?_⟩
      · rw [risV_len]
        exact Nat.lt_of_le_of_lt (show i ≤ 20000 by omega) (by decide)
      · rw [upd_upd]
        unfold risV risL
        rw [List.range_succ, List.map_append, List.map_append]
        have e : decide (((ls.getD i 0 : Nat) : Int) < ((ls.getD (i + 1) 0 : Nat) : Int)) = decide (ls.getD i 0 < ls.getD (i + 1) 0) := by
          rw [Bool.eq_iff_iff, decide_eq_true_eq, decide_eq_true_eq]
          omega
        rw [e]
        rfl
    · rintro H2 rfl
      rw [hn]
      refine ⟨D, risL ls (ls.length - 1), rfl, SqL.of upd_same, ?_⟩
      have z := h _ (same_upd (o := .lst (((List.range (ls.length - 1)).map fun i => decide (ls.getD i 0 < ls.getD (i + 1) 0)).map V.bl)) hD)
      rw [rising_at] at z
      exact z
def overOk (k : Nat) (ls : List Nat) : Bool := if k = 4 then decide (ls = []) else if k = 2 then decide (ls.length = 1) else decide ((if k = 1 then 0 else 1) ≤ ls.length) && (decide (ls.length ≤ 16) && FhWork.rising ls)
def spOverOk (K : PySem.W.Frag) : Sp := fun vs H Q _ => ∃ (k : Nat) (a : Addr) (ls : List Nat), vs = [.int (k : Nat), .ref a] ∧ SqL K H a (nv ls) ∧ ls.length ≤ 20000 ∧ ∀ H', Same H H' → Q (.bl (overOk k ls)) H'
theorem sc_over_may_be : FnScope ["kind", "over", "fewest"] ["kind", "over"] (defScope s_over_may_be) := ⟨rfl, rfl, rfl, by decide +kernel, rfl, by decide +kernel, by decide +kernel⟩
theorem ok_over_may_be (T : Tx K mg) : OkF P w K mg base 2 "over_may_be" ["kind", "over"] (spOverOk K) := by
  refine okf (d := d_over_may_be) 6 6 (N := ["kind", "over", "fewest"]) T rfl rfl rfl rfl rfl sc_over_may_be (fun _ _ _ _ _ _ us hl => match us, hl with | [_, _], _ => rfl) (fun vs H Q E h => ?_) (fun f cdv A outer s H vs Q E hr h => ?_)
  · obtain ⟨k, a, ls, rfl, hS, few, h⟩ := h
    rfl
  · obtain ⟨k, a, ls, rfl, hS, few, h⟩ := h
    have hu := hu_of hr
    refine ⟨_, (pss_cons (ps_if (pt_cmpR op_eq (pv 0) (pe_gi T.i_REMARK_records) (nomark _)) (pss_one (ps_ret (pe_cmpR (op_eqI hr.units) (pv 1) (pe_lst pa_nil) (nomark _)))) pss_nil)
      (pss_cons (ps_if (pt_cmpR op_eq (pv 0) (pe_gi T.i_VERDICT) (nomark _)) (pss_one (ps_ret (pe_cmpR op_eq (pe_callB call_len_seq (by rfl) T.b_len PySem.boot_len (pa_cons (pv 1) pa_nil)) pe_int (nomark _)))) pss_nil)
      (pss_cons (ps_set (i := 2) sc_over_may_be.nd rfl (Or.inl rfl) (pe_ifExp (pt_cmpR op_eq (pv 0) (pe_gi T.i_TARGET) (nomark _)) pe_int pe_int))
      (pss_one (ps_ret (pe_and (pe_cmpR op_le (pv 2) (pe_callB call_len_seq (by rfl) T.b_len PySem.boot_len (pa_cons (pv 1) pa_nil)) (nomark _)) (pe_and (pe_cmpR op_le (pe_callB call_len_seq (by rfl) T.b_len PySem.boot_len (pa_cons (pv 1) pa_nil)) (pe_gi T.i_MOST_OVER) (nomark _)) (pe_one (pe_callF (ok_is_rising T) (hr.mono (by decide)) (pa_cons (pv 1) pa_nil)))))))))), ?_⟩
    simp [tSeq, tIfS, tTest, tOp, rEq, rNe, rI0, rI, tVar, tC, tRet, tNext, L2.start, scal_ii, scal_nn, scal_in, scal_ni, scal_bb, line1, line2, line3, line7, tAnd, tOr, tNot, CDiv, CMul, tAsg, gName, tAndV, tOrV, tNotV, tCall, tCons, tNil, tCB, rU, tUn, tIf, tB, cx_K, cx_noxK, rIxL, rIxT, tLst, rEqI]
    unfold overOk at h
    by_cases k4 : k = 4
    · rw [if_pos (by omega)]
      rw [if_pos k4] at h
      refine fun p hp => ⟨_, (same_upd hp).seq hS, [], SqL.of upd_same, ?_⟩
      have e : decide ((ls.map fun n => ((n : Nat) : Int)) = []) = decide (ls = []) := by
        rw [Bool.eq_iff_iff, decide_eq_true_eq, decide_eq_true_eq, List.map_eq_nil_iff]
      rw [e]
      exact h _ (same_upd hp)
    · rw [if_neg (by omega)]
      rw [if_neg k4] at h
      by_cases k2 : k = 2
      · rw [if_pos (by omega)]
        rw [if_pos k2] at h
        refine ⟨_, .inl hS, ?_⟩
        rw [nv_len]
        have e : decide (((ls.length : Nat) : Int) = 1) = decide (ls.length = 1) := by
          rw [Bool.eq_iff_iff, decide_eq_true_eq, decide_eq_true_eq]
          omega
        rw [e]
        exact h _ (Same.refl _)
      · rw [if_neg (by omega)]
        rw [if_neg k2] at h
        have tail : decide ((if k = 1 then 0 else 1) ≤ ls.length) = true → ∃ x, (SqL K H a x ∨ SqT K H a x) ∧ if ((x.length : Nat) : Int) ≤ 16 then spRising K [V.ref a] H Q E0 else Q (V.bl false) H := fun z => by
          rw [z, Bool.true_and] at h
          refine ⟨_, .inl hS, ?_⟩
          rw [nv_len]
          by_cases c : ls.length ≤ 16
          · rw [if_pos (by omega)]
            rw [decide_eq_true c, Bool.true_and] at h
            exact ⟨a, ls, rfl, hS, few, h⟩
          · rw [if_neg (by omega)]
            rw [decide_eq_false c, Bool.false_and] at h
            exact h _ (Same.refl _)
        by_cases k1 : k = 1
        · rw [if_pos (by omega)]
          exact ⟨⟨_, .inl hS⟩, tail (by simp [k1])⟩
        · rw [if_neg (by omega)]
          refine ⟨_, .inl hS, ?_⟩
          rw [nv_len]
          by_cases c : 1 ≤ ls.length
          · rw [if_pos (by omega)]
            exact tail (by simp [k1, c])
          · rw [if_neg (by omega)]
            have e : decide ((if k = 1 then 0 else 1) ≤ ls.length) = false := decide_eq_false (by rw [if_neg k1]; exact c)
            rw [e, Bool.false_and] at h
            exact h _ (Same.refl _)
end
end Fj
set_option Elab.async false
set_option linter.all false
set_option maxRecDepth 100000
set_option maxHeartbeats 4000000
namespace Fj
open PySem PySem.Spec PyProof.Rows L2
open Fh (Bytes Piece)
open FhWork (Rec Journal Name)
/-! ## Two records compared -/
def CanR (r : Rec) : Prop := Fh.rowRead (Fh.rowText r.source) = .ok r.source ∧ Fh.rowRead (Fh.rowText r.row) = .ok r.row
theorem text_inj {a b : Fh.Row} (ha : Fh.rowRead (Fh.rowText a) = .ok a) (hb : Fh.rowRead (Fh.rowText b) = .ok b) : ((Fh.rowText a).map fun c => ((c.toNat : Nat) : Int)) = ((Fh.rowText b).map fun c => ((c.toNat : Nat) : Int)) ↔ a = b := by
  constructor
  · intro h
    have e : Fh.rowText a = Fh.rowText b := by
      refine List.map_inj_right (f := fun c : UInt8 => ((c.toNat : Nat) : Int)) (fun x y z => ?_) |>.mp h
      exact UInt8.toNat_inj.mp (Int.ofNat.inj z)
    rw [e, hb] at ha
    injection ha with z
    exact z.symm
  · intro h
    rw [h]
theorem nats_inj {a b : List Nat} : (a.map fun n => ((n : Nat) : Int)) = (b.map fun n => ((n : Nat) : Int)) ↔ a = b :=
  List.map_inj_right (f := fun n : Nat => ((n : Nat) : Int)) (fun x y z => Int.ofNat.inj z)
def nmD (n : Name) : PyData := .tuple [.int ((n.1 : Nat) : Int), .int ((n.2 : Nat) : Int)]
theorem nmD_shaped (n : Name) : SeqAt.shaped (nmD n) = true := by
  unfold SeqAt.shaped nmD
  simp [PyData.canLay0, PyData.canLayAll0, PyData.depth, PyData.depthAll]
theorem nmD_eqv (m n : Name) : PyData.eqv (nmD m) (nmD n) = decide (m = n) := by
  obtain ⟨a, b⟩ := m
  obtain ⟨c, d⟩ := n
  rw [Bool.eq_iff_iff, decide_eq_true_eq, Prod.mk.injEq]
  simp [nmD, PyData.eqv, PyData.eqvAll]
  try omega
theorem nmD_at {K : PySem.W.Frag} {H : Hp} {a : Addr} {n : Name} (h : H a = some (.tup [.int (n.1 : Nat), .int (n.2 : Nat)])) : Dp K H (.ref a) (nmD n) :=
  .tup (SqT.of h) (.cons (.int _) (.cons (.int _) .nil))
theorem rec_ext {x y : Rec} (h1 : x.stamp = y.stamp) (h2 : x.kind = y.kind) (h3 : x.name = y.name) (h4 : x.state = y.state) (h5 : x.over = y.over) (h6 : x.source = y.source) (h7 : x.row = y.row) : x = y := by
  obtain ⟨a, b, c, d, e, f, g⟩ := x
  obtain ⟨a', b', c', d', e', f', g'⟩ := y
  simp only at h1 h2 h3 h4 h5 h6 h7
  rw [h1, h2, h3, h4, h5, h6, h7]
theorem int_ne {m n : Nat} (h : ¬ m = n) : ¬ V.int ((m : Nat) : Int) = V.int ((n : Nat) : Int) := fun z => h (by injection z with z; exact Int.ofNat.inj z)
theorem int_eq {m n : Nat} (h : m = n) : V.int ((m : Nat) : Int) = V.int ((n : Nat) : Int) := by rw [h]
section
variable {P : Program} {w : World} {K : PySem.W.Frag} {mg : Str → Option Value} {base : Heap}
def spSame (K : PySem.W.Frag) : Sp := fun vs H Q _ => ∃ (p q : Addr) (x y : Rec), vs = [.ref p, .ref q] ∧ RecAt K H p x ∧ RecAt K H q y ∧ CanR x ∧ CanR y ∧ Q (.bl (decide (x = y))) H
theorem sc_is_same : FnScope ["one", "other"] ["one", "other"] (defScope s_is_same) := ⟨rfl, rfl, rfl, by decide +kernel, rfl, by decide +kernel, by decide +kernel⟩
theorem ok_is_same (T : Tx K mg) : OkF P w K mg base 1 "is_same" ["one", "other"] (spSame K) := by
  refine okf (d := d_is_same) 3 3 (N := ["one", "other"]) T rfl rfl rfl rfl rfl sc_is_same (fun _ _ _ _ _ _ us hl => match us, hl with | [_, _], _ => rfl) (fun vs H Q E h => ?_) (fun f cdv A outer s H vs Q E hr h => ?_)
  · obtain ⟨p, q, x, y, rfl, R, R', cx, cy, h⟩ := h
    rfl
  · obtain ⟨p, q, x, y, rfl, R, R', cx, cy, h⟩ := h
    have hu := hu_of hr
    refine ⟨_, (pss_cons (ps_if (PW.pt (pw_or (pt_cmpR op_ne (pe_fld (pv 0) rfl) (pe_fld (pv 1) rfl) (nomark _)) (pw_or (pt_cmpR op_ne (pe_fld (pv 0) rfl) (pe_fld (pv 1) rfl) (nomark _)) (pw_or (pt_cmpR (op_neD hr.units) (pe_fld (pv 0) rfl) (pe_fld (pv 1) rfl) (nomark _)) (pw_or1 (pt_cmpR op_ne (pe_fld (pv 0) rfl) (pe_fld (pv 1) rfl) (nomark _))))))) (pss_one (ps_ret pe_bl)) pss_nil)
      (pss_one (ps_ret (pe_and (pe_cmpR (op_eqI hr.units) (pe_fld (pv 0) rfl) (pe_fld (pv 1) rfl) (nomark _)) (pe_and (pe_cmpR (op_eqI hr.units) (pe_fld (pv 0) rfl) (pe_fld (pv 1) rfl) (nomark _)) (pe_one (pe_cmpR (op_eqI hr.units) (pe_fld (pv 0) rfl) (pe_fld (pv 1) rfl) (nomark _)))))))), ?_⟩
    obtain ⟨e1, e2, e3, e4, e5, c1, c2, c3, c4, c5⟩ := R.ex
    obtain ⟨f1, f2, f3, f4, f5, d1, d2, d3, d4, d5⟩ := R'.ex
    have no : ¬ x = y → Q (.bl false) H := fun z => by
      rw [decide_eq_false z] at h
      exact h
    simp [tSeq, tIfS, tTest, tOp, rEq, rNe, rI0, rI, tVar, tC, tRet, tNext, L2.start, scal_ii, scal_nn, scal_in, scal_ni, scal_bb, line1, line2, line3, line7, tAnd, tOr, tNot, CDiv, CMul, tAsg, gName, tAndV, tOrV, tNotV, tCall, tCons, tNil, tCB, rU, tUn, tIf, tB, cx_K, cx_noxK, rIxL, rIxT, tFld, rNeD, rEqI]
    refine ⟨_, _, _, c1, T.c_Record, T.n_Record_stamp, _, recF_stamp _ _ _ _ _ _ _ _, _, _, _, d1, T.c_Record, T.n_Record_stamp, _, recF_stamp _ _ _ _ _ _ _ _, rfl, ?_⟩
    by_cases k1 : x.stamp = y.stamp
    rotate_left
    · exact .inr ⟨int_ne k1, no fun z => k1 (by rw [z])⟩
    refine .inl ⟨int_eq k1, ?_⟩
    refine ⟨_, _, _, c1, T.c_Record, T.n_Record_kind, _, recF_kind _ _ _ _ _ _ _ _, _, _, _, d1, T.c_Record, T.n_Record_kind, _, recF_kind _ _ _ _ _ _ _ _, rfl, ?_⟩
    by_cases k2 : x.kind = y.kind
    rotate_left
    · exact .inr ⟨int_ne k2, no fun z => k2 (by rw [z])⟩
    refine .inl ⟨int_eq k2, ?_⟩
    refine ⟨_, _, _, c1, T.c_Record, T.n_Record_name, _, recF_name _ _ _ _ _ _ _ _, _, _, _, d1, T.c_Record, T.n_Record_name, _, recF_name _ _ _ _ _ _ _ _, _, nmD_at c2, _, nmD_at d2, nmD_shaped _, nmD_shaped _, ?_⟩
    rw [nmD_eqv]
    by_cases k3 : x.name = y.name
    rotate_left
    · exact .inr ⟨decide_eq_false k3, no fun z => k3 (by rw [z])⟩
    refine .inl ⟨decide_eq_true k3, ?_⟩
    refine ⟨_, _, _, c1, T.c_Record, T.n_Record_state, _, recF_state _ _ _ _ _ _ _ _, _, _, _, d1, T.c_Record, T.n_Record_state, _, recF_state _ _ _ _ _ _ _ _, rfl, ?_⟩
    by_cases k4 : x.state = y.state
    rotate_left
    · exact .inr ⟨int_ne k4, no fun z => k4 (by rw [z])⟩
    refine .inl ⟨int_eq k4, ?_⟩
    refine ⟨_, _, _, c1, T.c_Record, T.n_Record_over, _, recF_over _ _ _ _ _ _ _ _, _, _, _, d1, T.c_Record, T.n_Record_over, _, recF_over _ _ _ _ _ _ _ _, e3, rfl, f3, rfl, _, SqL.of c3, _, SqL.of d3, ?_⟩
    by_cases k5 : x.over = y.over
    rotate_left
    · rw [if_neg (fun z => k5 (nats_inj.mp z))]
      exact no fun z => k5 (by rw [z])
    rw [if_pos (nats_inj.mpr k5)]
    refine ⟨_, _, _, c1, T.c_Record, T.n_Record_source, _, recF_source _ _ _ _ _ _ _ _, _, _, _, d1, T.c_Record, T.n_Record_source, _, recF_source _ _ _ _ _ _ _ _, e4, rfl, f4, rfl, _, sq_bytes (SqL.of c4), _, sq_bytes (SqL.of d4), ?_⟩
    by_cases k6 : x.source = y.source
    rotate_left
    · rw [if_neg (fun z => k6 ((text_inj cx.1 cy.1).mp z))]
      exact no fun z => k6 (by rw [z])
    rw [if_pos ((text_inj cx.1 cy.1).mpr k6)]
    refine ⟨_, _, _, c1, T.c_Record, T.n_Record_row, _, recF_row _ _ _ _ _ _ _ _, _, _, _, d1, T.c_Record, T.n_Record_row, _, recF_row _ _ _ _ _ _ _ _, e5, rfl, f5, rfl, _, sq_bytes (SqL.of c5), _, sq_bytes (SqL.of d5), ?_⟩
    have e : decide (((Fh.rowText x.row).map fun c => ((c.toNat : Nat) : Int)) = ((Fh.rowText y.row).map fun c => ((c.toNat : Nat) : Int))) = decide (x = y) := by
      rw [Bool.eq_iff_iff, decide_eq_true_eq, decide_eq_true_eq, text_inj cx.2 cy.2]
      exact ⟨fun z => rec_ext k1 k2 k3 k4 k5 k6 z, fun z => by rw [z]⟩
    rw [e]
    exact h
/-- an approval by its target's own hand -/
def ownEye (j : Journal) (r : Rec) : Bool := r.kind == 2 && (r.state == 4 && FhWork.hand j r == FhWork.whoOf r.stamp)
theorem hand_new {j : Journal} (hj : JOk j) {r y x : Rec} {s : Nat} (k : r.kind = 2) (e1 : r.over = [s]) (e2 : j.at_ s = some y) (ky : y.kind = 1 ∨ y.kind = 2) (o : Org j r x) : FhWork.hand j r = FhWork.whoOf x.stamp := by
  cases o with
  | here z => exact absurd k z
  | over k' e1' e2' o' =>
    rename_i y' s'
    rw [e1] at e1'
    injection e1' with e1'
    subst e1'
    rw [e2] at e2'
    obtain rfl := Option.some.inj e2'
    obtain ⟨m, _⟩ := at_mem e2
    obtain ⟨z, _⟩ := root_of hj o' m ky j.length (upTo_le j _)
    have e : FhWork.root j r = some x := by
      unfold FhWork.root FhWork.rootFrom
      rw [if_neg (by omega), if_pos k, e1]
      simp only [e2, Option.bind_some]
      exact z
    unfold FhWork.hand
    rw [e]
def spOwnEye (K : PySem.W.Frag) : Sp := fun vs H Q _ => ∃ (J d p : Addr) (j : Journal) (r : Rec), vs = [.ref J, .ref p] ∧ JAt K H J d j ∧ RecAt K H p r ∧ (r.kind = 2 → ∃ s y, r.over = [s] ∧ j.at_ s = some y ∧ (y.kind = 1 ∨ y.kind = 2)) ∧ Q (.bl (ownEye j r)) H
theorem sc_approves_own : FnScope ["journal", "record"] ["journal", "record"] (defScope s_approves_own) := ⟨rfl, rfl, rfl, by decide +kernel, rfl, by decide +kernel, by decide +kernel⟩
theorem ok_approves_own (T : Tx K mg) : OkF P w K mg base 2 "approves_own" ["journal", "record"] (spOwnEye K) := by
  refine okf (d := d_approves_own) 43 43 (N := ["journal", "record"]) T rfl rfl rfl rfl rfl sc_approves_own (fun _ _ _ _ _ _ us hl => match us, hl with | [_, _], _ => rfl) (fun vs H Q E h => ?_) (fun f cdv A outer s H vs Q E hr h => ?_)
  · obtain ⟨J, d, p, j, r, rfl, hJ, R, hv, h⟩ := h
    rfl
  · obtain ⟨J, d, p, j, r, rfl, hJ, R, hv, h⟩ := h
    have hu := hu_of hr
    refine ⟨_, (pss_cons (ps_if (PW.pt (pw_or (pt_cmpR op_ne (pe_fld (pv 1) rfl) (pe_gi T.i_VERDICT) (nomark _)) (pw_or1 (pt_cmpR op_ne (pe_fld (pv 1) rfl) (pe_gi T.i_APPROVED) (nomark _))))) (pss_one (ps_ret pe_bl)) pss_nil)
      (pss_one (ps_ret (pe_cmpR op_eq (pe_callF (ok_person_of T) (hr.mono (by decide)) (pa_cons (pe_callF (ok_origin_of T) (hr.mono (by decide)) (pa_cons (pv 0) (pa_cons (pv 1) pa_nil))) pa_nil)) (pe_callF (ok_person_of T) (hr.mono (by decide)) (pa_cons (pv 1) pa_nil)) (nomark _))))), ?_⟩
    obtain ⟨e1, e2, e3, e4, e5, c1, c2, c3, c4, c5⟩ := R.ex
    simp [tSeq, tIfS, tTest, tOp, rEq, rNe, rI0, rI, tVar, tC, tRet, tNext, L2.start, scal_ii, scal_nn, scal_in, scal_ni, scal_bb, line1, line2, line3, line7, tAnd, tOr, tNot, CDiv, CMul, tAsg, gName, tAndV, tOrV, tNotV, tCall, tCons, tNil, tCB, rU, tUn, tIf, tB, cx_K, cx_noxK, rIxL, rIxT, tFld]
    refine ⟨_, _, _, c1, T.c_Record, T.n_Record_kind, _, recF_kind _ _ _ _ _ _ _ _, rfl, ?_⟩
    have hno : ownEye j r = false → Q (.bl false) H := fun z => by
      rw [z] at h
      exact h
    by_cases k2 : r.kind = 2
    rotate_left
    · exact .inr ⟨int_ne k2, hno (by unfold ownEye; simp [k2])⟩
    refine .inl ⟨int_eq k2, ?_⟩
    refine ⟨_, _, _, c1, T.c_Record, T.n_Record_state, _, recF_state _ _ _ _ _ _ _ _, rfl, ?_⟩
    by_cases k4 : r.state = 4
    rotate_left
    · exact .inr ⟨int_ne k4, hno (by unfold ownEye; simp [k4])⟩
    refine .inl ⟨int_eq k4, ?_⟩
    obtain ⟨s', y, o1, o2, o3⟩ := hv k2
    refine ⟨J, d, p, j, r, rfl, hJ, R, .inr ⟨s', y, k2, o1, o2⟩, fun q x Rx og mx => ?_⟩
    refine ⟨q, x, rfl, Rx, p, r, rfl, R, rfl, ?_⟩
    have e : decide (V.int ((FhWork.whoOf x.stamp : Nat) : Int) = V.int ((FhWork.whoOf r.stamp : Nat) : Int)) = ownEye j r := by
      unfold ownEye
      rw [hand_new hJ.ok k2 o1 o2 o3 og, k2, k4, Bool.eq_iff_iff, decide_eq_true_eq]
      simp
      exact ⟨fun z => Int.ofNat.inj z, fun z => by rw [z]⟩
    rw [e]
    exact h
/-! ## What a record has seen -/
def metK (ms : List Nat) : List (Key × V) := ms.map fun s => (Sum.inl ((s : Nat) : Int), V.bl true)
theorem metK_val (s : Nat) : ∀ ms : List Nat, (valV (metK ms) (Sum.inl ((s : Nat) : Int))).isSome = decide (s ∈ ms)
  | [] => rfl
  | m :: ms => by
    show (valV ((Sum.inl ((m : Nat) : Int), V.bl true) :: metK ms) _).isSome = _
    by_cases e : m = s
    · subst e
      rw [valV_pos rfl]
      simp
    · rw [valV_neg (by intro z; injection z with z; exact e (Int.ofNat.inj z)), metK_val s ms]
      simp [Ne.symm e]
theorem metK_new {s : Nat} {ms : List Nat} (h : s ∉ ms) : putK (metK ms) (Sum.inl ((s : Nat) : Int)) (.bl true) = metK (ms ++ [s]) := by
  have z := metK_val s ms
  rw [decide_eq_false h] at z
  rw [putK_new _ (by simpa using z)]
  unfold metK
  rw [List.map_append]
  rfl
/-- what is met, what is on the pile -/
structure SI (j : Journal) (b : Nat) (ms ps : List Nat) : Prop where
  nd : ms.Nodup
  inj : ∀ s ∈ ms, ∃ x ∈ j, x.stamp = s
  sub : ∀ s ∈ ps, s ∈ ms
  hb : b ∈ ms
  rch : ∀ s ∈ ms, Reach j b s
theorem SI.len {j : Journal} {b : Nat} {ms ps : List Nat} (h : SI j b ms ps) : ms.length ≤ j.length := by
  have z := sub_len (a := ms) (b := j.map (·.stamp)) h.nd fun s hs => by
    obtain ⟨x, m, e⟩ := h.inj s hs
    rw [← e]
    exact List.mem_map_of_mem m
  rw [List.length_map] at z
  exact z
def Closed (j : Journal) (ms ps : List Nat) : Prop := ∀ m ∈ ms, m ∈ ps ∨ ∀ r, j.at_ m = some r → ∀ s ∈ r.over, s ∈ ms
structure SeenH (H : Hp) (M Pl : Addr) (ms ps : List Nat) (H' : Hp) : Prop where
  same : Same H H'
  met : H' M = some (.dK (metK ms))
  pile : H' Pl = some (.lst (nv ps))
  fm : H M = none
  fp : H Pl = none
theorem SeenH.up {H H' H2 : Hp} {M Pl : Addr} {ms ps : List Nat} (h : SeenH H M Pl ms ps H') (s : Same H' H2) : SeenH H M Pl ms ps H2 := ⟨h.same.trans s, s _ _ h.met, s _ _ h.pile, h.fm, h.fp⟩
theorem SeenH.ne {H H' : Hp} {M Pl : Addr} {ms ps : List Nat} (h : SeenH H M Pl ms ps H') : M ≠ Pl := ne_of h.met h.pile (by intro z; cases z)
theorem SeenH.setM {H H' : Hp} {M Pl : Addr} {ms ps : List Nat} (h : SeenH H M Pl ms ps H') (ms' : List Nat) : SeenH H M Pl ms' ps (upd H' M (.dK (metK ms'))) :=
  ⟨fun b o e => by rw [upd_ne (ne_of_none e h.fm)]; exact h.same _ _ e, upd_same, by rw [upd_ne h.ne.symm]; exact h.pile, h.fm, h.fp⟩
theorem SeenH.setP {H H' : Hp} {M Pl : Addr} {ms ps : List Nat} (h : SeenH H M Pl ms ps H') (ps' : List Nat) : SeenH H M Pl ms ps' (upd H' Pl (.lst (nv ps'))) :=
  ⟨fun b o e => by rw [upd_ne (ne_of_none e h.fp)]; exact h.same _ _ e, by rw [upd_ne h.ne]; exact h.met, upd_same, h.fm, h.fp⟩
theorem sees_is {j : Journal} (hj : JOk j) {a b : Nat} {ms : List Nat} (hb : j.has b = true) (I : SI j b ms []) (C : Closed j ms []) : FhWork.sees j a b = decide (a ∈ ms) := by
  rw [Bool.eq_iff_iff, sees_iff hj hb, decide_eq_true_eq]
  constructor
  · intro h
    refine reach_in (M := fun m => m ∈ ms) (fun m hm r e s hs => ?_) h I.hb
    rcases C m hm with z | z
    · cases z
    · exact z r e s hs
  · exact I.rch a
def spHasSeen (K : PySem.W.Frag) : Sp := fun vs H Q _ => ∃ (J d : Addr) (j : Journal) (a b : Nat), vs = [.ref J, .int (b : Nat), .int (a : Nat)] ∧ JAt K H J d j ∧ j.has b = true ∧ ∀ H', Same H H' → Q (.bl (FhWork.sees j a b)) H'
def SeenI (H : Hp) (J M Pl : Addr) (j : Journal) (a b : Nat) : Nat → L2.St → Hp → Prop := fun m σ H2 => ∃ (ms ps : List Nat) (u v : Option V), σ = [some (.ref J), some (.int (b : Nat)), some (.int (a : Nat)), some (.ref M), some (.ref Pl), u, v] ∧
  SeenH H M Pl ms ps H2 ∧ SI j b ms ps ∧ Closed j ms ps ∧ m = 2 * (j.length - ms.length) + ps.length ∧ ps.length ≤ ms.length
theorem sc_has_seen : FnScope ["journal", "later", "earlier", "met", "pile", "record", "stamp"] ["journal", "later", "earlier"] (defScope s_has_seen) := ⟨rfl, rfl, rfl, by decide +kernel, rfl, by decide +kernel, by decide +kernel⟩
theorem ok_has_seen (T : Tx K mg) : OkF P w K mg base 1 "has_seen" ["journal", "later", "earlier"] (spHasSeen K) := by
  refine okf (d := d_has_seen) 44 44 (N := ["journal", "later", "earlier", "met", "pile", "record", "stamp"]) T rfl rfl rfl rfl rfl sc_has_seen (fun _ _ _ _ _ _ us hl => match us, hl with | [_, _, _], _ => rfl) (fun vs H Q E h => ?_) (fun f cdv A outer s H vs Q E hr h => ?_)
  · obtain ⟨J, d, j, a, b, rfl, hJ, hb, h⟩ := h
    rfl
  · obtain ⟨J, d, j, a, b, rfl, hJ, hb, h⟩ := h
    have hu := hu_of hr
    refine ⟨_, (pss_cons (ps_set (i := 3) sc_has_seen.nd rfl (Or.inl rfl) (pe_disp (pps_cons (pv 1) pe_bl pps_nil) rfl rfl (by intro z; cases z) (by decide)))
      (pss_cons (ps_set (i := 4) sc_has_seen.nd rfl (Or.inl rfl) (pe_lst (pa_cons (pv 1) pa_nil)))
      (pss_cons (ps_while PassesOwn.never (pt_cmpR (op_neI hr.units) (pv 4) (pe_lst pa_nil) (nomark _)) (pss_cons (ps_set (i := 5) sc_has_seen.nd rfl (Or.inl rfl) (pe_dget hu (pe_fld (pv 0) rfl) (pe_bm0 PySem.F.plainAttrs_list PySem.F.slot_list_pop PySem.F.type_list_pop mt_pop (pv 4)) (fun _ _ => rfl)))
      (pss_one (ps_for PassesOwn.never rfl (pi_list (pe_fld (pv 5) rfl)) (pg_name (i := 6) sc_has_seen.nd rfl (Or.inl rfl))
        (pss_one (ps_if (pt_cmp (pc_dnotin hu (pv 6) (pv 3))) (pss_cons (ps_dput hu (pv 3) (pv 6) pe_bl rfl)
      (pss_one (ps_expr (pe_bm PySem.F.plainAttrs_list PySem.F.slot_list_append PySem.F.type_list_append mt_append (pv 4) (pa_cons (pv 6) pa_nil))))) pss_nil))))))
      (pss_one (ps_ret (pe_cmp (pc_din hu (pv 2) (pv 3)) rfl)))))), ?_⟩
    simp [tSeq, tIfS, tTest, tOp, rEq, rNe, rI0, rI, tVar, tC, tRet, tNext, L2.start, scal_ii, scal_nn, scal_in, scal_ni, scal_bb, line1, line2, line3, line7, tAnd, tOr, tNot, CDiv, CMul, tAsg, gName, tAndV, tOrV, tNotV, tCall, tCons, tNil, tCB, rU, tUn, tIf, tB, cx_K, cx_noxK, rIxL, rIxT, tDisp, tPairs, tLst]
    intro M hM
    refine ⟨upd_same, [(Sum.inl ((b : Nat) : Int), V.bl true)], rfl, by show 1 ≤ 15; decide, fun Pl hP => ?_⟩
    have eM : mergeK [] [((Sum.inl ((b : Nat) : Int) : Key), V.bl true)] = metK [b] := rfl
    rw [upd_upd, eM] at hP ⊢
    have sM := same_upd (o := .dK (metK [b])) hM
    have sP := same_upd (o := .lst [V.int (b : Nat)]) hP
    have fP : H Pl = none := sM.free hP
    have hM1 : upd (upd H M (.dK (metK [b]))) Pl (.lst [V.int (b : Nat)]) M = some (.dK (metK [b])) := sP _ _ upd_same
    have hP1 : upd (upd H M (.dK (metK [b]))) Pl (.lst [V.int (b : Nat)]) Pl = some (.lst (nv [b])) := upd_same
    have sA := sM.trans sP
    generalize upd (upd H M (.dK (metK [b]))) Pl (.lst [V.int (b : Nat)]) = H1 at *
    refine ⟨SeenI H J M Pl j a b, ⟨_, [b], [b], none, none, rfl, ⟨sA, hM1, hP1, hM, fP⟩, ⟨by simp, fun s hs => ?_, fun s hs => hs, by simp, fun s hs => ?_⟩, fun m hm => .inl hm, rfl, Nat.le_refl _⟩, ?_⟩
    · rw [List.mem_singleton.mp hs]
      exact has_iff.mp hb
    · rw [List.mem_singleton.mp hs]
      exact .here
    clear sA hM1 hP1 sM sP
    rintro m σ H2 ⟨ms, ps, u, v, rfl, S, I, C, rfl, lp⟩
    have lm := I.len
    have few := hJ.ok.few
    simp [tSeq, tIfS, tTest, tOp, rEq, rNe, rI0, rI, tVar, tC, tRet, tNext, L2.start, scal_ii, scal_nn, scal_in, scal_ni, scal_bb, line1, line2, line3, line7, tAnd, tOr, tNot, CDiv, CMul, tAsg, gName, tAndV, tOrV, tNotV, tCall, tCons, tNil, tCB, rU, tUn, tIf, tB, cx_K, cx_noxK, rIxL, rIxT, tFld, tDGet, tLst, rNeI, tBM0, rPop, tyV, tDIn]
    intro e0 he0
    have s0 := same_upd (o := .lst []) he0
    have S := S.up s0
    clear s0
    refine ⟨_, SqL.of S.pile, [], SqL.of upd_same, ?_⟩
    generalize upd H2 e0 (.lst []) = H3 at *
    by_cases ep : ps = []
    · subst ep
      refine .inl ⟨rfl, ?_⟩
      refine ⟨_, DGet.k (k := Sum.inl ((a : Nat) : Int)) S.met, ?_⟩
      rw [metK_val, ← sees_is hJ.ok hb I C]
      exact h _ S.same
    · refine .inr ⟨fun z => ep (nv_nil.mp z), ?_⟩
      obtain ⟨c, hc⟩ : ∃ c, ps.getLast? = some c := ⟨ps.getLast ep, List.getLast?_eq_some_getLast ep⟩
      obtain ⟨k1, k2, k3⟩ := nv_last hc
      obtain ⟨ps0, rfl⟩ : ∃ r, ps = r ++ [c] := List.getLast?_eq_some_iff.mp hc
      rw [List.dropLast_concat] at k3
      have cm := I.sub c (by simp)
      obtain ⟨r, hr, er⟩ := I.inj c cm
      have hat : j.at_ c = some r := by rw [← er]; exact at_of hJ.ok.sorted hr
      obtain ⟨pr, kvs, hd, hv, R⟩ := hJ.get hat
      obtain ⟨dx, ho⟩ := hJ.ob
      obtain ⟨e1, e2, e3, e4, e5, c1, c2, c3, _⟩ := R.ex
      have lm0 : ps0.length + 1 ≤ ms.length := by simpa using lp
      refine ⟨fun σ' H' => ∃ m', m' < 2 * (j.length - ms.length) + (ps0 ++ [c]).length ∧ SeenI H J M Pl j a b m' σ' H', fun _ _ z => z, ?_⟩
      refine ⟨_, _, _, S.same _ _ ho, T.c_Journal, T.n_Journal_records, _, rfl, ⟨_, SqL.of S.pile⟩, _, S.pile, _, k2, d, rfl, .ref pr, ?_, ?_⟩
      · rw [k3]
        have z := DGet.k (k := Sum.inl ((c : Nat) : Int)) ((S.setP ps0).same _ _ hd)
        rw [hv] at z
        exact z
      rw [k3]
      have S1 := S.setP ps0
      clear S
      generalize upd H3 Pl (.lst (nv ps0)) = H4 at *
      refine ⟨_, rfl, _, _, _, _, _, rfl, S1.same _ _ c1, T.c_Record, T.n_Record_over, recF_over _ _ _ _ _ _ _ _, e3, rfl, ⟨_, SqL.of (S1.same _ _ c3)⟩, for_list (K := K) (a := e3) (xs := nv r.over)
        (fun k σ H5 => ∃ (ms' ps' : List Nat) (v : Option V), σ = [some (.ref J), some (.int (b : Nat)), some (.int (a : Nat)), some (.ref M), some (.ref Pl), some (.ref pr), v] ∧ SeenH H M Pl ms' ps' H5 ∧ SI j b ms' ps' ∧ Closed j ms' (c :: ps') ∧ (∀ s ∈ r.over.take k, s ∈ ms') ∧ c ∈ ms' ∧
          2 * (j.length - ms'.length) + ps'.length + 1 ≤ 2 * (j.length - ms.length) + (ps0 ++ [c]).length ∧ ps'.length ≤ ms'.length)
        ⟨ms, ps0, _, rfl, S1, ⟨I.nd, I.inj, fun s hs => I.sub s (by simp [hs]), I.hb, I.rch⟩, fun m hm => ?_, by simp, cm, by simp; omega, by omega⟩ (fun k σ H5 _ ⟨_, _, _, _, S, _⟩ => SqL.of (S.same _ _ c3)) ?_ ?_⟩
      · rcases C m hm with z | z
        · refine .inl ?_
          rcases List.mem_append.mp z with y | y
          · exact List.mem_cons_of_mem _ y
          · rw [List.mem_singleton.mp y]
            simp
        · exact .inr z
      · rintro k y σ H5 hk ⟨ms', ps', v, rfl, S, I', C', ot, cm', mm, lp'⟩
        obtain ⟨t, ht, rfl⟩ : ∃ t, r.over[k]? = some t ∧ y = .int ((t : Nat) : Int) := by
          unfold nv at hk
          rw [List.getElem?_map, List.getElem?_map] at hk
          cases q : r.over[k]? with
          | none => rw [q] at hk; cases hk
          | some t =>
            rw [q] at hk
            exact ⟨t, rfl, (Option.some.inj hk).symm⟩
        have tin := List.mem_of_getElem? ht
        have lm' := I'.len
        simp [tSeq, tIfS, tTest, tOp, rEq, rNe, rI0, rI, tVar, tC, tRet, tNext, L2.start, scal_ii, scal_nn, scal_in, scal_ni, scal_bb, line1, line2, line3, line7, tAnd, tOr, tNot, CDiv, CMul, tAsg, gName, tAndV, tOrV, tNotV, tCall, tCons, tNil, tCB, rU, tUn, tIf, tB, cx_K, cx_noxK, rIxL, rIxT, sDPut, tDNotIn, tDrop, tBM, rAppend]
        refine ⟨_, DGet.k (k := Sum.inl ((t : Nat) : Int)) S.met, ?_⟩
        have mv := metK_val t ms'
        by_cases tm : t ∈ ms'
        · rw [decide_eq_true tm] at mv
          rw [if_neg (by intro z; rw [z] at mv; cases mv)]
          refine ⟨ms', ps', S, I', C', fun s' hs => ?_, cm', by simpa using mm, lp'⟩
          rw [take_snoc ht] at hs
          rcases List.mem_append.mp hs with z | z
          · exact ot s' z
          · rw [List.mem_singleton.mp z]
            exact tm
        · rw [decide_eq_false tm] at mv
          have vn : valV (metK ms') (Sum.inl ((t : Nat) : Int)) = none := by simpa using mv
          rw [if_pos vn]
          have lk : (metK ms').length = ms'.length := by unfold metK; rw [List.length_map]
          refine ⟨_, DPut.k (k := Sum.inl ((t : Nat) : Int)) S.met (by rw [lk]; exact Nat.lt_of_le_of_lt (show ms'.length ≤ 256 by omega) (by decide)), ?_⟩
          rw [metK_new tm]
          have S2 := S.setM (ms' ++ [t])
          generalize upd H5 M (.dK (metK (ms' ++ [t]))) = H6 at *
          refine ⟨.inl ⟨rfl, _, SqL.of S2.pile⟩, _, S2.pile, by rw [nv_len]; exact Nat.lt_of_le_of_lt (show ps'.length ≤ 256 by omega) (by decide), ?_⟩
          have en : nv ps' ++ [.int ((t : Nat) : Int)] = nv (ps' ++ [t]) := (nv_app ps' [t]).symm
          rw [en]
          have I2 : SI j b (ms' ++ [t]) (ps' ++ [t]) := by
            refine ⟨nodup_snoc I'.nd tm, fun s' hs => ?_, fun s' hs => ?_, List.mem_append_left _ I'.hb, fun s' hs => ?_⟩
            · rcases List.mem_append.mp hs with z | z
              · exact I'.inj s' z
              · rw [List.mem_singleton.mp z]
                exact ((hJ.ok.recs r hr).cl t tin).1
            · rcases List.mem_append.mp hs with z | z
              · exact List.mem_append_left _ (I'.sub s' z)
              · exact List.mem_append_right _ z
            · rcases List.mem_append.mp hs with z | z
              · exact I'.rch s' z
              · rw [List.mem_singleton.mp z]
                exact (I'.rch c cm').trans (.over hat tin .here)
          have lm2 := I2.len
          rw [List.length_append] at lm2
          have l1 : [t].length = 1 := rfl
          refine ⟨ms' ++ [t], ps' ++ [t], S2.setP _, I2, fun m hm => ?_, fun s' hs => ?_, List.mem_append_left _ cm', ?_, ?_⟩
          · rcases List.mem_append.mp hm with z | z
            · rcases C' m z with y | y
              · refine .inl ?_
                rcases List.mem_cons.mp y with q | q
                · rw [q]
                  simp
                · exact List.mem_cons_of_mem _ (List.mem_append_left _ q)
              · exact .inr fun r' e' s' hs => List.mem_append_left _ (y r' e' s' hs)
            · exact .inl (List.mem_cons_of_mem _ (List.mem_append_right _ z))
          · rw [take_snoc ht] at hs
            rcases List.mem_append.mp hs with z | z
            · exact List.mem_append_left _ (ot s' z)
            · exact List.mem_append_right _ z
          · rw [List.length_append] at mm
            rw [List.length_append, List.length_append]
            have l2 : [c].length = 1 := rfl
            omega
          · rw [List.length_append, List.length_append]
            omega
      · rintro σ H5 ⟨ms', ps', v, rfl, S, I', C', ot, cm', mm, lp'⟩
        rw [nv_len, List.take_length] at ot
        refine ⟨2 * (j.length - ms'.length) + ps'.length, by omega, ms', ps', _, _, rfl, S, I', fun m hm => ?_, rfl, lp'⟩
        rcases C' m hm with z | z
        · rcases List.mem_cons.mp z with y | y
          · refine .inr fun r' e' s hs => ?_
            rw [y, hat] at e'
            obtain rfl := Option.some.inj e'
            exact ot s hs
          · exact .inl y
        · exact .inr z
end
end Fj
set_option Elab.async false
set_option linter.all false
set_option maxRecDepth 100000
set_option maxHeartbeats 4000000
namespace Fj
open PySem PySem.Spec PyProof.Rows L2
open Fh (Bytes Piece)
open FhWork (Rec Journal Name)
section
variable {P : Program} {w : World} {K : PySem.W.Frag} {mg : Str → Option Value} {base : Heap}
def spLate (K : PySem.W.Frag) : Sp := fun vs H Q _ => ∃ (l : Addr) (ws : List V) (hs : List Rec) (t : Nat), vs = [.ref l, .int (t : Nat)] ∧ SqL K H l ws ∧ All2 (RecV K H) ws hs ∧ hs.length ≤ 256 ∧ ∀ H', Same H H' → Q (.bl (hs.any fun r => decide (t ≤ FhWork.tickOf r.stamp))) H'
theorem sc_some_head_is_late : FnScope ["heads", "tick", "head"] ["heads", "tick"] (defScope s_some_head_is_late) := ⟨rfl, rfl, rfl, by decide +kernel, rfl, by decide +kernel, by decide +kernel⟩
theorem ok_some_head_is_late (T : Tx K mg) : OkF P w K mg base 2 "some_head_is_late" ["heads", "tick"] (spLate K) := by
  refine okf (d := d_some_head_is_late) 49 49 (N := ["heads", "tick", "head"]) T rfl rfl rfl rfl rfl sc_some_head_is_late (fun _ _ _ _ _ _ us hl => match us, hl with | [_, _], _ => rfl) (fun vs H Q E h => ?_) (fun f cdv A outer s H vs Q E hr h => ?_)
  · obtain ⟨l, ws, hs, t, rfl, hS, al, few, h⟩ := h
    rfl
  · obtain ⟨l, ws, hs, t, rfl, hS, al, few, h⟩ := h
    have hu := hu_of hr
    refine ⟨_, (pss_one (ps_ret (pe_callB (cr_any rfl) (by rfl) T.b_any (by decide +kernel) (pa_cons (pe_lc (own := [("head", 2)]) (g := gName 2) (tt := tYes) (te := (tOp (rI0 fun i j => V.bl (decide (j ≤ i))) (tCall (spOfRec K fun s => ((FhWork.tickOf s : Nat) : Int)) [] E0 (tCons (tVar 2) tNil)) (tVar 1))) (by rfl) sc_some_head_is_late.nd (pi_list (pv 0)) (blkOk_by (own := [("head", 2)]) (N := ["heads", "tick", "head"]) (sc := (defScope s_some_head_is_late)) (by decide +kernel)) (fun _ _ _ _ _ => pg_name (i := 2) sc_some_head_is_late.nd rfl (Or.inl rfl)) (fun _ _ _ _ _ => pts_nil) (fun _ _ _ _ _ => by exact ((pe_cmpR op_ge (pe_callF (ok_tick_of T) (hr.mono (by decide)) (pa_cons (pv 2) pa_nil)) (pv 1) (nomark _))))) pa_nil)))), ?_⟩
    refine ⟨_, rfl, l, rfl, ⟨_, hS⟩, fun D hD => lc_list (K := K) (a := l) (xs := ws) (fun i H2 => H2 = upd H D (.lst (((hs.take i).map fun r => decide (t ≤ FhWork.tickOf r.stamp)).map V.bl))) rfl (fun i H2 _ e => by rw [e]; exact (same_upd hD).seq hS) ?_ ?_⟩
    · rintro i x H2 hi rfl
      obtain ⟨r, hr, p, rfl, R⟩ := al.at hi
      have s2 := same_upd (o := .lst (((hs.take i).map fun r => decide (t ≤ FhWork.tickOf r.stamp)).map V.bl)) hD
      refine ⟨rfl, ?_⟩
      refine ⟨_, rfl, p, r, rfl, R.same s2, _, rfl, _, _, rfl, rfl, _, upd_same, ?_, ?_⟩
      · rw [List.length_map, List.length_map, List.length_take]
        exact Nat.lt_of_le_of_lt (show min i hs.length ≤ 256 by omega) (by decide)
      · rw [upd_upd, take_snoc hr, List.map_append, List.map_append]
        have e : decide (((t : Nat) : Int) ≤ ((FhWork.tickOf r.stamp : Nat) : Int)) = decide (t ≤ FhWork.tickOf r.stamp) := by
          rw [Bool.eq_iff_iff, decide_eq_true_eq, decide_eq_true_eq]
          omega
        dsimp only
        rw [e]
        rfl
    · rintro H2 rfl
      rw [al.len, List.take_length]
      refine ⟨D, _, rfl, SqL.of upd_same, ?_⟩
      rw [List.any_map]
      exact h _ (same_upd hD)
/-- the last sixteen -/
theorem cut_last (xs : List V) : cutV xs (some (-16)) none = xs.drop (xs.length - 16) := by
  unfold cutV
  have e1 : HT.sIx xs.length 0 (some (-16)) = xs.length - 16 := by
    have z : HT.sIx xs.length 0 (some (-16)) = ((-16 : Int) + ((xs.length : Nat) : Int)).toNat := by simp [HT.sIx]
    rw [z]
    omega
  have e2 : HT.sIx xs.length xs.length none = xs.length := rfl
  rw [e1, e2, List.take_of_length_le]
  rw [List.length_drop]
  exact Nat.le_of_eq rfl
theorem All2.drop {α β : Type} {R : α → β → Prop} : ∀ (k : Nat) {as : List α} {bs : List β}, All2 R as bs → All2 R (as.drop k) (bs.drop k)
  | 0, _, _, h => h
  | k + 1, _, _, .nil => .nil
  | k + 1, _, _, .cons r t => t.drop k
def spOver (K : PySem.W.Frag) : Sp := fun vs H Q _ => ∃ (l : Addr) (ws : List V) (hs : List Rec), vs = [.ref l] ∧ SqL K H l ws ∧ All2 (RecV K H) ws hs ∧ ∀ H' p, Same H H' → H' p = some (.lst (nv ((FhWork.lastOf 16 hs).map fun r => r.stamp))) → Q (.ref p) H'
theorem sc_stamps_over : FnScope ["heads", "head"] ["heads"] (defScope s_stamps_over) := ⟨rfl, rfl, rfl, by decide +kernel, rfl, by decide +kernel, by decide +kernel⟩
theorem ok_stamps_over (T : Tx K mg) : OkF P w K mg base 1 "stamps_over" ["heads"] (spOver K) := by
  refine okf (d := d_stamps_over) 50 50 (N := ["heads", "head"]) T rfl rfl rfl rfl rfl sc_stamps_over (fun _ _ _ _ _ _ us hl => match us, hl with | [_], _ => rfl) (fun vs H Q E h => ?_) (fun f cdv A outer s H vs Q E hr h => ?_)
  · obtain ⟨l, ws, hs, rfl, hS, al, h⟩ := h
    rfl
  · obtain ⟨l, ws, hs, rfl, hS, al, h⟩ := h
    have hu := hu_of hr
    refine ⟨_, (pss_one (ps_ret (pe_lc (own := [("head", 1)]) (g := gName 1) (tt := tYes) (te := (tFld K (tVar 1) "stamp")) (by rfl) sc_stamps_over.nd (pi_list (pe_slice sl_list (pv 0) (po_some (pe_un un_neg (pe_gi T.i_MOST_OVER))) po_none)) (blkOk_by (own := [("head", 1)]) (N := ["heads", "head"]) (sc := (defScope s_stamps_over)) (by decide +kernel)) (fun _ _ _ _ _ => pg_name (i := 1) sc_stamps_over.nd rfl (Or.inl rfl)) (fun _ _ _ _ _ => pts_nil) (fun _ _ _ _ _ => by exact ((pe_fld (pv 1) rfl)))))), ?_⟩
    refine ⟨_, rfl, _, rfl, _, rfl, l, ws, rfl, hS, fun q hq => ?_⟩
    rw [show (-16 : Int) = -16 from rfl, cut_last, al.len]
    have sq := same_upd (o := .lst (ws.drop (hs.length - 16))) hq
    have al2 := (al.drop (hs.length - 16)).mono fun _ _ z => RecV.same sq z
    have hq2 : upd H q (.lst (ws.drop (hs.length - 16))) q = some (.lst (ws.drop (hs.length - 16))) := upd_same
    generalize upd H q (.lst (ws.drop (hs.length - 16))) = H1 at *
    have ls : hs.drop (hs.length - 16) = FhWork.lastOf 16 hs := rfl
    rw [ls] at al2
    refine ⟨q, rfl, ⟨_, SqL.of hq2⟩, fun D hD => lc_list (K := K) (a := q) (xs := ws.drop (hs.length - 16)) (fun i H2 => H2 = upd H1 D (.lst (nv (((FhWork.lastOf 16 hs).take i).map fun r => r.stamp)))) rfl (fun i H2 _ e => by rw [e]; exact (same_upd hD).seq (SqL.of hq2)) ?_ ?_⟩
    · rintro i x H2 hi rfl
      obtain ⟨r, hr, p, rfl, R⟩ := al2.at hi
      obtain ⟨e1, e2, e3, e4, e5, c1, _⟩ := R.ex
      refine ⟨rfl, ?_⟩
      refine ⟨_, rfl, _, _, _, _, _, rfl, same_upd hD _ _ c1, T.c_Record, T.n_Record_stamp, recF_stamp _ _ _ _ _ _ _ _, _, upd_same, ?_, ?_⟩
      · rw [nv_len, List.length_map, List.length_take]
        unfold FhWork.lastOf
        rw [List.length_drop]
        exact Nat.lt_of_le_of_lt (show min i (hs.length - (hs.length - 16)) ≤ 16 by omega) (by decide)
      · rw [upd_upd, take_snoc hr, List.map_append, nv_app]
        rfl
    · rintro H2 rfl
      rw [al2.len, List.take_length]
      exact h _ _ (sq.trans (same_upd hD)) upd_same
theorem room_one (j : Journal) (r : Rec) : (decide (j.length + [r].length ≤ 256) && decide (FhWork.pieces j + ([r].map FhWork.piecesOf).sum ≤ 16384)) = FhWork.roomFor j r := by
  unfold FhWork.roomFor FhWork.RECORDS FhWork.ALLPIECES
  simp only [List.length_singleton, List.map_cons, List.map_nil, List.sum_cons, List.sum_nil, Nat.add_zero]
  rfl
def spEnter (K : PySem.W.Frag) : Sp := fun vs H Q _ => ∃ (J d p : Addr) (j : Journal) (r : Rec), vs = [.ref J, .ref p] ∧ JAt K H J d j ∧ RecAt K H p r ∧ j.has r.stamp = false ∧ ROk j r ∧
  (FhWork.roomFor j r = false → Gives H [-6] Q) ∧ (FhWork.roomFor j r = true → ∀ H' q, KeptD H H' d → JAt K H' J d (FhWork.into r j) → H q = none → H' q = some (.lst [.int 0]) → Q (.ref q) H')
theorem sc_enter : FnScope ["journal", "record"] ["journal", "record"] (defScope s_enter) := ⟨rfl, rfl, rfl, by decide +kernel, rfl, by decide +kernel, by decide +kernel⟩
theorem ok_enter (T : Tx K mg) : OkF P w K mg base 2 "enter" ["journal", "record"] (spEnter K) := by
  refine okf (d := d_enter) 51 51 (N := ["journal", "record"]) T rfl rfl rfl rfl rfl sc_enter (fun _ _ _ _ _ _ us hl => match us, hl with | [_, _], _ => rfl) (fun vs H Q E h => ?_) (fun f cdv A outer s H vs Q E hr h => ?_)
  · obtain ⟨J, d, p, j, r, rfl, hJ, R, hn, ro, h1, h2⟩ := h
    rfl
  · obtain ⟨J, d, p, j, r, rfl, hJ, R, hn, ro, h1, h2⟩ := h
    have hu := hu_of hr
    refine ⟨_, (pss_cons (ps_if (pt_not (pt_val (pe_meth (pv 0) T.c_Journal T.m_Journal_has_room (ok_Journal_has_room T) (hr.mono (by decide)) (b_Journal_has_room T) .nil pass0 (pa_cons (pe_lst (pa_cons (pv 1) pa_nil)) pa_nil)))) (pss_one (ps_ret (pe_lst (pa_cons (pe_un un_neg pe_int) pa_nil)))) pss_nil)
      (pss_cons (ps_expr (pe_meth (pv 0) T.c_Journal T.m_Journal_put_in (ok_Journal_put_in T) (hr.mono (by decide)) (b_Journal_put_in T) .nil pass0 (pa_cons (pv 1) pa_nil)))
      (pss_one (ps_ret (pe_lst (pa_cons pe_int pa_nil)))))), ?_⟩
    obtain ⟨dx, ho⟩ := hJ.ob
    refine ⟨_, rfl, J, dx, _, rfl, ho, rfl, _, rfl, line1, fun l hl => ?_⟩
    have sl := same_upd (o := .lst [.ref p]) hl
    refine ⟨J, d, l, j, [.ref p], [r], rfl, hJ.same sl, SqL.of upd_same, .cons ⟨p, rfl, R.same sl⟩ .nil, (show 1 ≤ 256 by decide), fun H1 s1 => ⟨_, rfl, ?_⟩⟩
    have s1 := sl.trans s1
    have er : (decide (j.length + [r].length ≤ 256) && decide (FhWork.pieces j + ([r].map FhWork.piecesOf).sum ≤ 16384)) = FhWork.roomFor j r := room_one j r
    dsimp only
    rw [er]
    cases c : FhWork.roomFor j r with
    | false =>
      rw [if_pos (by rfl)]
      simp [tSeq, tIfS, tTest, tOp, rEq, rNe, rI0, rI, tVar, tC, tRet, tNext, L2.start, scal_ii, scal_nn, scal_in, scal_ni, scal_bb, line1, line2, line3, line7, tAnd, tOr, tNot, CDiv, CMul, tAsg, gName, tAndV, tOrV, tNotV, tCall, tCons, tNil, tCB, rU, tUn, tIf, tB, cx_K, cx_noxK, rIxL, rIxT, tLst]
      refine fun q hq => h1 c _ _ (s1.trans (same_upd hq)) (s1.free hq) ?_
      exact upd_same
    | true =>
      rw [if_neg (by decide)]
      have few := hJ.ok.few
      refine ⟨_, rfl, J, dx, _, rfl, s1 _ _ ho, rfl, _, rfl, J, d, p, j, r, rfl, (hJ.same s1).raw, R.same s1, hn, by omega, fun H2 hJ2 k => ?_⟩
      have ok : JOk (FhWork.into r j) := by
        refine jok_into hJ.ok (has_no hn) ro ?_
        unfold FhWork.roomFor FhWork.RECORDS at c
        simp only [Bool.and_eq_true, decide_eq_true_eq] at c
        exact c.1
      have hJ2 := hJ2.well ok
      simp [tSeq, tIfS, tTest, tOp, rEq, rNe, rI0, rI, tVar, tC, tRet, tNext, L2.start, scal_ii, scal_nn, scal_in, scal_ni, scal_bb, line1, line2, line3, line7, tAnd, tOr, tNot, CDiv, CMul, tAsg, gName, tAndV, tOrV, tNotV, tCall, tCons, tNil, tCB, rU, tUn, tIf, tB, cx_K, cx_noxK, rIxL, rIxT, tLst]
      intro q hq
      have sq := same_upd (o := .lst [.int 0]) hq
      refine h2 c _ _ (fun b o e hb => sq _ _ (k _ _ (s1 _ _ e) hb)) (hJ2.same sq) ?_ upd_same
      cases z : H q with
      | none => rfl
      | some o =>
        by_cases e : q = d
        · obtain ⟨rs, g, _⟩ := hJ2.ex
          rw [← e, hq] at g
          cases g
        · rw [k _ _ (s1 _ _ z) e] at hq
          cases hq
end
/-! ## the three journals -/
/-- what may change are dicts alone -/
def Fr (H H' : Hp) : Prop := ∀ b o, H b = some o → (∀ kvs, o ≠ .dK kvs) → H' b = some o
theorem Fr.of {H H' : Hp} (s : Same H H') : Fr H H' := fun b o e _ => s b o e
theorem Fr.trans {H H1 H2 : Hp} (a : Fr H H1) (b : Fr H1 H2) : Fr H H2 := fun c o e h => b c o (a c o e h) h
theorem Fr.ofD {H H' : Hp} {d : Addr} {kvs : List (Key × V)} (k : KeptD H H' d) (hd : H d = some (.dK kvs)) : Fr H H' := fun b o e h => k b o e fun z => by
  rw [z, hd] at e
  exact h kvs (Option.some.inj e).symm
theorem JAt.other {K : PySem.W.Frag} {H H' : Hp} {d : Addr} {kvs : List (Key × V)} (k : KeptD H H' d) (hd : H d = some (.dK kvs)) {J e : Addr} {j : Journal} (h : JAt K H J e j) (ne : e ≠ d) : JAt K H' J e j := by
  obtain ⟨dx, ho⟩ := h.ob
  obtain ⟨rs, h1, h2, h3⟩ := h.ex
  exact ⟨⟨dx, k _ _ ho (ne_of ho hd (by intro z; cases z))⟩, ⟨rs, k _ _ h1 ne, h2, fun q hq => (h3 q hq).keptD k hd⟩, h.ok⟩
/-- the journals of x stand in the list at L -/
structure StAt (K : PySem.W.Frag) (H : Hp) (L : Addr) (x : FhJournals.State) : Prop where
  ex : ∃ J0 J1 J2 d0 d1 d2, H L = some (.lst [.ref J0, .ref J1, .ref J2]) ∧ JAt K H J0 d0 x.first ∧ JAt K H J1 d1 x.second ∧ JAt K H J2 d2 x.third ∧ d0 ≠ d1 ∧ d0 ≠ d2 ∧ d1 ≠ d2
theorem StAt.same {K : PySem.W.Frag} {H H' : Hp} (s : Same H H') {L : Addr} {x : FhJournals.State} (h : StAt K H L x) : StAt K H' L x := by
  obtain ⟨J0, J1, J2, d0, d1, d2, h1, h2, h3, h4, h5⟩ := h.ex
  exact ⟨J0, J1, J2, d0, d1, d2, s _ _ h1, h2.same s, h3.same s, h4.same s, h5⟩
/-- one of them -/
theorem StAt.get {K : PySem.W.Frag} {H : Hp} {L : Addr} {x : FhJournals.State} (h : StAt K H L x) {i : Nat} (hi : i ≤ 2) : ∃ J d ws, H L = some (.lst ws) ∧ ws[i]? = some (.ref J) ∧ JAt K H J d (x.at_ i) ∧
    ∀ H' j', KeptD H H' d → JAt K H' J d j' → StAt K H' L (x.with_ i j') := by
  obtain ⟨J0, J1, J2, d0, d1, d2, h1, h2, h3, h4, n01, n02, n12⟩ := h.ex
  have : i = 0 ∨ i = 1 ∨ i = 2 := by omega
  rcases this with rfl | rfl | rfl
  · refine ⟨J0, d0, _, h1, rfl, h2, fun H' j' k hj => ?_⟩
    obtain ⟨rs, hd, _⟩ := h2.ex
    exact ⟨J0, J1, J2, d0, d1, d2, k _ _ h1 (ne_of h1 hd (by intro z; cases z)), hj, h3.other k hd n01.symm, h4.other k hd n02.symm, n01, n02, n12⟩
  · refine ⟨J1, d1, _, h1, rfl, h3, fun H' j' k hj => ?_⟩
    obtain ⟨rs, hd, _⟩ := h3.ex
    exact ⟨J0, J1, J2, d0, d1, d2, k _ _ h1 (ne_of h1 hd (by intro z; cases z)), h2.other k hd n01, hj, h4.other k hd n12.symm, n01, n02, n12⟩
  · refine ⟨J2, d2, _, h1, rfl, h4, fun H' j' k hj => ?_⟩
    obtain ⟨rs, hd, _⟩ := h4.ex
    exact ⟨J0, J1, J2, d0, d1, d2, k _ _ h1 (ne_of h1 hd (by intro z; cases z)), h2.other k hd n02, h3.other k hd n12, hj, n01, n02, n12⟩
/-- a call's answer: the list of its numbers, the journals then -/
def Ans (K : PySem.W.Frag) (H : Hp) (L : Addr) (y : FhJournals.State × FhJournals.Answer) (Q : VK) : Prop := ∀ H' p, Fr H H' → StAt K H' L y.1 → H p = none → H' p = some (.lst ((FfNeutral.numbers y.2).map V.int)) → Q (.ref p) H'
/-- nothing has changed -/
theorem Ans.same {K : PySem.W.Frag} {H H' : Hp} {L p : Addr} {x : FhJournals.State} {a : FhJournals.Answer} {Q : VK} (h : Ans K H L (x, a) Q) (st : StAt K H L x) (s : Same H H') (np : H p = none) (hp : H' p = some (.lst ((FfNeutral.numbers a).map V.int))) : Q (.ref p) H' :=
  h _ _ (Fr.of s) (st.same s) np hp
end Fj
set_option Elab.async false
set_option linter.all false
set_option maxRecDepth 100000
set_option maxHeartbeats 4000000
namespace Fj
open PySem PySem.Spec PyProof.Rows L2
open Fh (Bytes Piece)
open FhWork (Rec Journal Name)
def wideI (who tick doc seg : Nat) : Bool := (decide ((255 : Int) < (who : Nat)) || decide ((1099511627776 : Int) ≤ (tick : Nat))) || (decide ((15 : Int) < (doc : Nat)) || decide ((65535 : Int) < (seg : Nat)))
theorem wide_is (who tick doc seg : Nat) : FhJournals.wide who tick doc seg = wideI who tick doc seg := by
  unfold FhJournals.wide wideI FhWork.PEOPLE FhWork.TICKS FhWork.DOCS FhWork.SEGMENTS
  rw [Bool.eq_iff_iff]
  simp only [Bool.or_eq_true, decide_eq_true_eq]
  omega
theorem wideName_is (doc seg : Nat) : FhJournals.wideName doc seg = (decide ((15 : Int) < (doc : Nat)) || decide ((65535 : Int) < (seg : Nat))) := by
  unfold FhJournals.wideName FhWork.DOCS FhWork.SEGMENTS
  rw [Bool.eq_iff_iff]
  simp only [Bool.or_eq_true, decide_eq_true_eq]
  omega
/-- a new list of one number -/
theorem num1 (z : Int) : (FfNeutral.numbers (FhJournals.says z)).map V.int = [.int z] := rfl
def Mid0 (H : Hp) (σ0 : L2.St) (c : Prop) : L2.St → Hp → Prop := fun σ H1 => H1 = H ∧ σ = σ0 ∧ c
theorem Ans.no {K : PySem.W.Frag} {H : Hp} {L : Addr} {x : FhJournals.State} {z : Int} {Q : VK} (h : Ans K H L (x, FhJournals.says z) Q) (st : StAt K H L x) : ∀ p, H p = none → Q (.ref p) (upd H p (.lst [.int z])) := fun p hp => h.same st (same_upd hp) hp upd_same
theorem Ans.up {K : PySem.W.Frag} {H H' : Hp} {L : Addr} {y : FhJournals.State × FhJournals.Answer} {Q : VK} (h : Ans K H L y Q) (s : Same H H') : Ans K H' L y Q := fun H2 q f t np => h H2 q ((Fr.of s).trans f) t (s.free np)
/-- the i-th journal of those at L -/
structure JIn (K : PySem.W.Frag) (H : Hp) (L : Addr) (x : FhJournals.State) (i : Nat) (J d : Addr) : Prop where
  at_ : JAt K H J d (x.at_ i)
  put : ∀ H' j', KeptD H H' d → JAt K H' J d j' → StAt K H' L (x.with_ i j')
  all : StAt K H L x
theorem JIn.same {K : PySem.W.Frag} {H H' : Hp} (s : Same H H') {L : Addr} {x : FhJournals.State} {i : Nat} {J d : Addr} (h : JIn K H L x i J d) : JIn K H' L x i J d :=
  ⟨h.at_.same s, fun H2 j' k hj => h.put H2 j' (fun b o e hb => k _ _ (s _ _ e) hb) hj, h.all.same s⟩
theorem stamp_int (tick who : Nat) : ((tick : Nat) : Int) * 256 + ((who : Nat) : Int) = ((FhWork.stampOf tick who : Nat) : Int) := by
  unfold FhWork.stampOf
  omega
/-- a record made -/
theorem make_rec {K : PySem.W.Frag} {H : Hp} {r : Rec} {nm ov so ro : Addr} {sz : Int} {Z : V → Hp → Prop}
    (h1 : H nm = some (.tup [.int (r.name.1 : Nat), .int (r.name.2 : Nat)])) (h2 : H ov = some (.lst (nv r.over))) (h3 : H so = some (.lst (bv (Fh.rowText r.source)))) (h4 : H ro = some (.lst (bv (Fh.rowText r.row)))) (h5 : sz = (FhWork.piecesOf r : Nat))
    {p dx : Addr} (np : H p = none) (ndx : H dx = none) (z : ∀ H2, Same H H2 → RecAt K H2 p r → Z .non H2) :
    spRecInit (He.ga K "Record") [.ref p, .int (r.stamp : Nat), .int (r.kind : Nat), .ref nm, .int (r.state : Nat), .ref ov, .ref so, .ref ro, .int sz] (upd (upd H dx (.own p)) p (.ins (He.ga K "Record") dx [])) Z E0 := by
  subst h5
  refine ⟨p, dx, _, _, _, _, _, _, _, _, rfl, upd_same, ?_⟩
  have s : Same H (upd (upd (upd H dx (.own p)) p (.ins (He.ga K "Record") dx [])) p (.ins (He.ga K "Record") dx (recF (r.stamp : Nat) (r.kind : Nat) nm (r.state : Nat) ov so ro (FhWork.piecesOf r : Nat)))) := fun b o e => by
    rw [upd_ne (ne_of_none e np), upd_ne (ne_of_none e np), upd_ne (ne_of_none e ndx)]
    exact e
  exact z _ s ⟨dx, nm, ov, so, ro, upd_same, s _ _ h1, s _ _ h2, s _ _ h3, s _ _ h4⟩
/-- .. entered -/
theorem enter_ans {K : PySem.W.Frag} {H : Hp} {L p : Addr} {x : FhJournals.State} {i : Nat} {J d : Addr} {Q : VK} {r : Rec} (hJ : JIn K H L x i J d) (R : RecAt K H p r) (hn : (x.at_ i).has r.stamp = false) (rk : ROk (x.at_ i) r)
    (h : Ans K H L (FhJournals.changed x i (FhWork.added (x.at_ i) r)) Q) : spEnter K [.ref J, .ref p] H Q E0 := by
  refine ⟨J, d, p, _, r, rfl, hJ.at_, R, hn, rk, fun c => ?_, fun c H' q k hj nq hq => ?_⟩
  · have e : FhWork.added (x.at_ i) r = .error .full := by unfold FhWork.added; rw [if_neg (by rw [c]; decide)]
    rw [e] at h
    exact fun H' q s2 nq hq => h.same hJ.all s2 nq hq
  · have e : FhWork.added (x.at_ i) r = .ok (FhWork.into r (x.at_ i)) := by unfold FhWork.added; rw [if_pos c]
    rw [e] at h
    obtain ⟨rs, hd, _⟩ := hJ.at_.ex
    exact h H' q (Fr.ofD k hd) (hJ.put _ _ k hj) nq hq
/-- a record made and entered -/
theorem make_enter {K : PySem.W.Frag} {H : Hp} {L : Addr} {x : FhJournals.State} {i : Nat} {J d : Addr} {Q : VK} (hJ : JIn K H L x i J d) {r : Rec} {nm ov so ro : Addr} {sz : Int}
    (h1 : H nm = some (.tup [.int (r.name.1 : Nat), .int (r.name.2 : Nat)])) (h2 : H ov = some (.lst (nv r.over))) (h3 : H so = some (.lst (bv (Fh.rowText r.source)))) (h4 : H ro = some (.lst (bv (Fh.rowText r.row)))) (h5 : sz = (FhWork.piecesOf r : Nat))
    (hn : (x.at_ i).has r.stamp = false) (rk : ROk (x.at_ i) r) (h : Ans K H L (FhJournals.changed x i (FhWork.added (x.at_ i) r)) Q) :
    ∀ p dx, H p = none → H dx = none → dx ≠ p → spRecInit (He.ga K "Record") [.ref p, .int (r.stamp : Nat), .int (r.kind : Nat), .ref nm, .int (r.state : Nat), .ref ov, .ref so, .ref ro, .int sz] (upd (upd H dx (.own p)) p (.ins (He.ga K "Record") dx []))
      (fun v H2 => v = .non ∧ spEnter K [.ref J, .ref p] H2 Q E0) E0 := by
  intro p dx np ndx ne
  exact make_rec h1 h2 h3 h4 h5 np ndx fun H2 s R => ⟨rfl, enter_ans (hJ.same s) R hn rk (h.up s)⟩
theorem not_late {j : Journal} {n : Name} {tick who : Nat} (h : (FhWork.heads j n).any (fun r => decide (tick ≤ FhWork.tickOf r.stamp)) = false) {r : Rec} (m : r ∈ FhWork.heads j n) : r.stamp < FhWork.stampOf tick who := by
  rw [List.any_eq_false] at h
  have := h r m
  simp only [decide_eq_true_eq] at this
  unfold FhWork.tickOf at this
  unfold FhWork.stampOf
  omega
theorem heads_in {j : Journal} {n : Name} {r : Rec} (m : r ∈ FhWork.heads j n) : r ∈ j := (List.mem_filter.mp (List.mem_filter.mp m).1).1
theorem over_cl {j : Journal} {n : Name} {tick who : Nat} (h : (FhWork.heads j n).any (fun r => decide (tick ≤ FhWork.tickOf r.stamp)) = false) : ∀ s ∈ FhWork.overOf j n, (∃ x ∈ j, x.stamp = s) ∧ s < FhWork.stampOf tick who := by
  intro s hs
  unfold FhWork.overOf FhWork.lastOf at hs
  obtain ⟨r, hr, rfl⟩ := List.mem_map.mp hs
  have m := List.mem_of_mem_drop hr
  exact ⟨⟨r, heads_in m, rfl⟩, not_late h m⟩
theorem over_few (j : Journal) (n : Name) : (FhWork.overOf j n).length ≤ 16 := by
  unfold FhWork.overOf FhWork.lastOf FhWork.OVERS
  rw [List.length_map, List.length_drop]
  omega
section
variable {P : Program} {w : World} {K : PySem.W.Frag} {mg : Str → Option Value} {base : Heap}
def spWrite (K : PySem.W.Frag) : Sp := fun vs H Q _ => ∃ (L : Addr) (x : FhJournals.State) (j who tick doc seg state : Nat) (a b : Addr) (src row : Bytes),
  vs = [.ref L, .int (j : Nat), .int (who : Nat), .int (tick : Nat), .int (doc : Nat), .int (seg : Nat), .int (state : Nat), .ref a, .ref b] ∧ StAt K H L x ∧ H a = some (.lst (bv src)) ∧ H b = some (.lst (bv row)) ∧ src.length ≤ 20000 ∧ row.length ≤ 20000 ∧
  Ans K H L (FhJournals.step x (.write j who tick doc seg state src row)) Q
theorem sc_write : FnScope ["journals", "j", "who", "tick", "doc", "seg", "state", "src", "row", "source", "target", "refusal", "journal", "heads", "stamp", "size"] ["journals", "j", "who", "tick", "doc", "seg", "state", "src", "row"] (defScope s_write) := ⟨rfl, rfl, rfl, by decide +kernel, rfl, by decide +kernel, by decide +kernel⟩
theorem ok_write (T : Tx K mg) : OkF P w K mg base 10 "write" ["journals", "j", "who", "tick", "doc", "seg", "state", "src", "row"] (spWrite K) := by
  refine okf (d := d_write) 45 45 (N := ["journals", "j", "who", "tick", "doc", "seg", "state", "src", "row", "source", "target", "refusal", "journal", "heads", "stamp", "size"]) T rfl rfl rfl rfl rfl sc_write (fun _ _ _ _ _ _ us hl => match us, hl with | [_, _, _, _, _, _, _, _, _], _ => rfl) (fun vs H Q E h => ?_) (fun f cdv A outer s H vs Q E hr h => ?_)
  · obtain ⟨L, x, j, who, tick, doc, seg, state, a, b, src, row, rfl, st, hA, hB, la, lb, h⟩ := h
    rfl
  · obtain ⟨L, x, j, who, tick, doc, seg, state, a, b, src, row, rfl, st, hA, hB, la, lb, h⟩ := h
    have hu := hu_of hr
    refine ⟨_, (pss_mid (ps_if (PW.pt (pw_or (pt_val (pe_callF (ok_stamp_is_beyond T) (hr.mono (by decide)) (pa_cons (pv 2) (pa_cons (pv 3) pa_nil)))) (pw_or (pt_val (pe_callF (ok_name_is_beyond T) (hr.mono (by decide)) (pa_cons (pv 4) (pa_cons (pv 5) pa_nil)))) (pw_or (pt_val (pe_callF (ok_text_is_beyond T) (hr.mono (by decide)) (pa_cons (pv 7) pa_nil))) (pw_or1 (pt_val (pe_callF (ok_text_is_beyond T) (hr.mono (by decide)) (pa_cons (pv 8) pa_nil)))))))) (pss_one (ps_ret (pe_lst (pa_cons (pe_un un_neg pe_int) pa_nil)))) pss_nil)
      (pss_mid (ps_if (PW.pt (pw_or (pt_val (pe_callF (ok_is_no_journal T) (hr.mono (by decide)) (pa_cons (pv 1) pa_nil))) (pw_or1 (pt_not (pt_val (pe_callF (ok_state_may_be T) (hr.mono (by decide)) (pa_cons (pe_gi T.i_TARGET) (pa_cons (pv 6) pa_nil)))))))) (pss_one (ps_ret (pe_lst (pa_cons (pe_un un_neg pe_int) pa_nil)))) pss_nil)
      (pss_cons (ps_set (i := 9) sc_write.nd rfl (Or.inl rfl) (pe_callF (ok_read_text T) (hr.mono (by decide)) (pa_cons (pv 7) pa_nil)))
      (pss_cons (ps_set (i := 10) sc_write.nd rfl (Or.inl rfl) (pe_callF (ok_read_text T) (hr.mono (by decide)) (pa_cons (pv 8) pa_nil)))
      (pss_cons (ps_set (i := 11) sc_write.nd rfl (Or.inl rfl) (pe_callF (ok_target_refusal T) (hr.mono (by decide)) (pa_cons (pv 9) (pa_cons (pv 10) pa_nil))))
      (pss_cons (ps_if (pt_cmpR (op_neI hr.units) (pv 11) (pe_lst pa_nil) (nomark _)) (pss_one (ps_ret (pv 11))) pss_nil)
      (pss_cons (ps_set (i := 12) sc_write.nd rfl (Or.inl rfl) (pe_ix ix_list (pv 0) (pv 1) (fun _ _ => rfl)))
      (pss_cons (ps_set (i := 13) sc_write.nd rfl (Or.inl rfl) (pe_callF (ok_heads_of T) (hr.mono (by decide)) (pa_cons (pe_callF (ok_records_of T) (hr.mono (by decide)) (pa_cons (pv 12) (pa_cons (pe_tup (pa_cons (pv 4) (pa_cons (pv 5) pa_nil))) pa_nil))) pa_nil)))
      (pss_cons (ps_set (i := 14) sc_write.nd rfl (Or.inl rfl) (pe_callF (ok_stamp_number T) (hr.mono (by decide)) (pa_cons (pv 3) (pa_cons (pv 2) pa_nil))))
      (pss_cons (ps_if (PW.pt (pw_or (pt_val (pe_meth (pv 12) T.c_Journal T.m_Journal_has_stamp (ok_Journal_has_stamp T) (hr.mono (by decide)) (b_Journal_has_stamp T) .nil pass0 (pa_cons (pv 14) pa_nil))) (pw_or1 (pt_val (pe_callF (ok_some_head_is_late T) (hr.mono (by decide)) (pa_cons (pv 13) (pa_cons (pv 3) pa_nil))))))) (pss_one (ps_ret (pe_lst (pa_cons (pe_un un_neg pe_int) pa_nil)))) pss_nil)
      (pss_cons (ps_set (i := 15) sc_write.nd rfl (Or.inl rfl) (pe_op op_add (pe_callB call_len_seq (by rfl) T.b_len PySem.boot_len (pa_cons (pe_fld (pv 9) rfl) pa_nil)) (pe_callB call_len_seq (by rfl) T.b_len PySem.boot_len (pa_cons (pe_fld (pv 10) rfl) pa_nil))))
      (pss_one (ps_ret (pe_callF (ok_enter T) (hr.mono (by decide)) (pa_cons (pv 12) (pa_cons (pe_make T.k_Record (ok_Record_init T) (hr.mono (by decide)) rfl T.g_Record (b_Record_init T) .nil pass0 (pa_cons (pv 14) (pa_cons (pe_gi T.i_TARGET) (pa_cons (pe_tup (pa_cons (pv 4) (pa_cons (pv 5) pa_nil))) (pa_cons (pv 6) (pa_cons (pe_callF (ok_stamps_over T) (hr.mono (by decide)) (pa_cons (pv 13) pa_nil)) (pa_cons (pv 7) (pa_cons (pv 8) (pa_cons (pv 15) pa_nil))))))))) pa_nil)))))))))))))))), ?_⟩
    have e0 : FhJournals.step x (.write j who tick doc seg state src row) = if FhJournals.wide who tick doc seg = true ∨ FhJournals.long src = true ∨ FhJournals.long row = true then (x, FhJournals.says (-6)) else if 2 < j ∨ state < 1 ∨ 3 < state then (x, FhJournals.says (-1)) else (match FhJournals.pairGiven src row with
      | .error a => (x, a)
      | .ok r => FhJournals.changed x j (FhWork.write (x.at_ j) tick who (doc, seg) state r.1 r.2)) := rfl
    have l1 : FhJournals.long src = false := by unfold FhJournals.long Fh.ROWTEXT; rw [decide_eq_false_iff_not]; omega
    have l2 : FhJournals.long row = false := by unfold FhJournals.long Fh.ROWTEXT; rw [decide_eq_false_iff_not]; omega
    have m1 : decide (65536 < (bv src).length) = false := by rw [bv_len, decide_eq_false_iff_not]; omega
    have m2 : decide (65536 < (bv row).length) = false := by rw [bv_len, decide_eq_false_iff_not]; omega
    refine ⟨Mid0 H [some (.ref L), some (.int (j : Nat)), some (.int (who : Nat)), some (.int (tick : Nat)), some (.int (doc : Nat)), some (.int (seg : Nat)), some (.int (state : Nat)), some (.ref a), some (.ref b), none, none, none, none, none, none, none] (wideI who tick doc seg = false), ?_, ?_⟩
    · simp [tSeq, tIfS, tTest, tOp, rEq, rNe, rI0, rI, tVar, tC, tRet, tNext, L2.start, scal_ii, scal_nn, scal_in, scal_ni, scal_bb, line1, line2, line3, line7, tAnd, tOr, tNot, CDiv, CMul, tAsg, gName, tAndV, tOrV, tNotV, tCall, tCons, tNil, tCB, rU, tUn, tIf, tB, cx_K, cx_noxK, rIxL, rIxT, spI2, spLong, tLst]
      have no : wideI who tick doc seg = true → ∀ p, H p = none → Q (.ref p) (upd H p (.lst [.int (-6)])) := fun z => by
        rw [e0, if_pos (.inl (by rw [wide_is]; exact z))] at h
        exact h.no st
      have wi : wideI who tick doc seg = true ↔ ((255 : Int) < (who : Nat) ∨ (1099511627776 : Int) ≤ (tick : Nat)) ∨ ((15 : Int) < (doc : Nat) ∨ (65535 : Int) < (seg : Nat)) := by
        unfold wideI
        simp only [Bool.or_eq_true, decide_eq_true_eq]
      refine ⟨_, _, ⟨rfl, rfl⟩, ?_⟩
      by_cases c1 : (255 : Int) < (who : Nat) ∨ (1099511627776 : Int) ≤ (tick : Nat)
      · rw [if_pos c1]
        exact no (wi.mpr (.inl c1))
      rw [if_neg c1]
      refine ⟨_, _, ⟨rfl, rfl⟩, ?_⟩
      by_cases c2 : (15 : Int) < (doc : Nat) ∨ (65535 : Int) < (seg : Nat)
      · rw [if_pos c2]
        exact no (wi.mpr (.inr c2))
      rw [if_neg c2]
      refine ⟨_, SqL.of hA, ?_⟩
      rw [if_neg (by rw [bv_len]; omega)]
      refine ⟨_, SqL.of hB, ?_⟩
      rw [if_neg (by rw [bv_len]; omega)]
      refine ⟨rfl, rfl, ?_⟩
      cases q : wideI who tick doc seg with
      | false => rfl
      | true => exact absurd (wi.mp q) (by simp only [not_or] at c1 c2 ⊢; exact ⟨c1, c2⟩)
    · rintro σ H1 ⟨rfl, rfl, nw⟩
      rw [e0, if_neg (by rw [wide_is, nw, l1, l2]; simp)] at h
      clear e0
      refine ⟨Mid0 H1 [some (.ref L), some (.int (j : Nat)), some (.int (who : Nat)), some (.int (tick : Nat)), some (.int (doc : Nat)), some (.int (seg : Nat)), some (.int (state : Nat)), some (.ref a), some (.ref b), none, none, none, none, none, none, none] (¬ (2 < j ∨ state < 1 ∨ 3 < state)), ?_, ?_⟩
      · simp [tSeq, tIfS, tTest, tOp, rEq, rNe, rI0, rI, tVar, tC, tRet, tNext, L2.start, scal_ii, scal_nn, scal_in, scal_ni, scal_bb, line1, line2, line3, line7, tAnd, tOr, tNot, CDiv, CMul, tAsg, gName, tAndV, tOrV, tNotV, tCall, tCons, tNil, tCB, rU, tUn, tIf, tB, cx_K, cx_noxK, rIxL, rIxT, spI1, tLst]
        have no : (2 < j ∨ state < 1 ∨ 3 < state) → ∀ p, H1 p = none → Q (.ref p) (upd H1 p (.lst [.int (-1)])) := fun z => by
          rw [if_pos z] at h
          exact h.no st
        by_cases c1 : (2 : Int) < (j : Nat)
        · rw [if_pos c1]
          exact no (.inl (by omega))
        rw [if_neg c1]
        refine ⟨1, state, rfl, ?_⟩
        have es : stateOk 1 state = decide (1 ≤ state ∧ state ≤ 3) := rfl
        rw [es]
        by_cases c2 : 1 ≤ state ∧ state ≤ 3
        · rw [decide_eq_true c2]
          exact .inr ⟨rfl, rfl, rfl, by omega, by omega, by omega⟩
        · rw [decide_eq_false c2]
          exact .inl ⟨rfl, no (by omega)⟩
      · rintro σ H2 ⟨rfl, rfl, ns⟩
        rw [if_neg ns] at h
        simp [tSeq, tIfS, tTest, tOp, rEq, rNe, rI0, rI, tVar, tC, tRet, tNext, L2.start, scal_ii, scal_nn, scal_in, scal_ni, scal_bb, line1, line2, line3, line7, tAnd, tOr, tNot, CDiv, CMul, tAsg, gName, tAndV, tOrV, tNotV, tCall, tCons, tNil, tCB, rU, tUn, tIf, tB, cx_K, cx_noxK, rIxL, rIxT]
        refine ⟨a, src, rfl, SqL.of hA, by omega, fun H3 p1 s3 R1 => ?_⟩
        refine ⟨b, row, rfl, SqL.of (s3 _ _ hB), by omega, fun H4 p2 s4 R2 => ?_⟩
        refine ⟨p1, a, src, p2, b, row, rfl, R1.same s4, SqL.of ((s3.trans s4) _ _ hA), by omega, R2, by omega, fun H5 q s5 nq hq => ?_⟩
        simp [tSeq, tIfS, tTest, tOp, rEq, rNe, rI0, rI, tVar, tC, tRet, tNext, L2.start, scal_ii, scal_nn, scal_in, scal_ni, scal_bb, line1, line2, line3, line7, tAnd, tOr, tNot, CDiv, CMul, tAsg, gName, tAndV, tOrV, tNotV, tCall, tCons, tNil, tCB, rU, tUn, tIf, tB, cx_K, cx_noxK, rIxL, rIxT, tLst, rNeI]
        refine fun p hp => ⟨_, SqL.of (same_upd hp _ _ hq), [], SqL.of upd_same, ?_⟩
        have sp := same_upd (o := .lst []) hp
        have sA := ((s3.trans s4).trans s5).trans sp
        rcases pair_spec src row with ⟨er, g1, g2, g3⟩ | ⟨sr, g1, g2, g3, g4⟩
        · rw [g1] at h
          refine .inr ⟨g3, h.same st sA ((s3.trans s4).free nq) ?_⟩
          rw [← g2]
          exact sp _ _ hq
        · refine .inl ⟨g2, ?_⟩
          rw [g1] at h
          have R1 := R1.same ((s4.trans s5).trans sp)
          have R2 := R2.same (s5.trans sp)
          have hA := sA _ _ hA
          have hB := sA _ _ hB
          have st := st.same sA
          have h : Ans K (upd H5 p (.lst [])) L (FhJournals.changed x j (FhWork.write (x.at_ j) tick who (doc, seg) state sr.1 sr.2)) Q := h.up sA
          clear hq sp sA s3 s4 s5
          generalize upd H5 p (.lst []) = H6 at *
          obtain ⟨J, d, vs, c1, c2, hJ, put⟩ := st.get (i := j) (by omega)
          refine ⟨_, SqL.of c1, _, atI_nat c2, ?_⟩
          refine ⟨_, rfl, _, rfl, line2, fun nm hnm => ?_⟩
          have sn := same_upd (o := .tup [.int (doc : Nat), .int (seg : Nat)]) hnm
          refine ⟨J, d, nm, x.at_ j, (doc, seg), rfl, hJ.same sn, upd_same, fun H7 l7 w7 s7 hl7 al7 => ?_⟩
          refine ⟨l7, w7, _, rfl, SqL.of hl7, al7, ?_, ?_, fun H8 l8 w8 s8 hl8 al8 => ?_⟩
          · exact Nat.le_trans (List.length_filter_le _ _) hJ.ok.few
          · exact fun r hr => (hJ.ok.recs r (List.mem_filter.mp hr).1).ov
          refine ⟨_, _, rfl, ?_⟩
          dsimp only
          rw [stamp_int]
          have sB := (sn.trans s7).trans s8
          have hI : JIn K H8 L x j J d := JIn.same sB ⟨hJ, put, st⟩
          have R1 := R1.same sB
          have R2 := R2.same sB
          have hA := sB _ _ hA
          have hB := sB _ _ hB
          have h := h.up sB
          have hnm8 := s8 _ _ (s7 _ _ (upd_same (H := H6) (a := nm)))
          clear hJ put st sB sn s7 s8 hl7 al7 c1
          rw [← heads_seg hI.at_.ok] at al8
          obtain ⟨dx, ho⟩ := hI.at_.ob
          refine ⟨_, rfl, J, dx, _, rfl, ho, rfl, _, rfl, J, d, x.at_ j, FhWork.stampOf tick who, rfl, hI.at_, ?_⟩
          cases cs : (x.at_ j).has (FhWork.stampOf tick who) with
          | true =>
            refine .inr ⟨rfl, ?_⟩
            have e : FhWork.write (x.at_ j) tick who (doc, seg) state sr.1 sr.2 = .error .notNow := by unfold FhWork.write FhWork.late; rw [cs]; rfl
            rw [e] at h
            exact h.no hI.all
          | false =>
            refine .inl ⟨rfl, l8, w8, _, tick, rfl, SqL.of hl8, al8, ?_, fun H9 s9 => ?_⟩
            · exact Nat.le_trans (List.length_filter_le _ _) (Nat.le_trans (List.length_filter_le _ _) hI.at_.ok.few)
            have hI := hI.same s9
            have h := h.up s9
            have hA := s9 _ _ hA
            have hB := s9 _ _ hB
            have R1 := R1.same s9
            have R2 := R2.same s9
            have hnm9 := s9 _ _ hnm8
            have hl9 := s9 _ _ hl8
            have al9 := al8.mono fun _ _ z => RecV.same s9 z
            cases cl : (FhWork.heads (x.at_ j) (doc, seg)).any fun r => decide (tick ≤ FhWork.tickOf r.stamp) with
            | true =>
              refine .inr ⟨rfl, ?_⟩
              have e : FhWork.write (x.at_ j) tick who (doc, seg) state sr.1 sr.2 = .error .notNow := by unfold FhWork.write FhWork.late; rw [cs, cl]; rfl
              rw [e] at h
              exact h.no hI.all
            | false =>
              refine .inl ⟨rfl, ?_⟩
              have e : FhWork.write (x.at_ j) tick who (doc, seg) state sr.1 sr.2 = FhWork.added (x.at_ j) ⟨FhWork.stampOf tick who, 1, (doc, seg), state, FhWork.overOf (x.at_ j) (doc, seg), sr.1, sr.2⟩ := by unfold FhWork.write FhWork.late; rw [cs, cl]; rfl
              rw [e] at h
              obtain ⟨x1, m1, n1, ts1, ss1, fl1, i1, i2, i3, i4⟩ := R1.ex
              obtain ⟨x2, m2, n2, ts2, ss2, fl2, k1, k2, k3, k4⟩ := R2.ex
              rw [g3] at i4
              rw [g4] at k4
              refine ⟨_, rfl, _, _, _, _, _, rfl, i1, T.c_Reading, T.n_Reading_pieces, rdF_pieces _ _ _ _, m1, rfl, ts1, .inl (SqL.of i2), ?_⟩
              refine ⟨_, rfl, _, _, _, _, _, rfl, k1, T.c_Reading, T.n_Reading_pieces, rdF_pieces _ _ _ _, m2, rfl, ts2, .inl (SqL.of k2), ?_⟩
              refine ⟨_, rfl, _, rfl, _, rfl, line2, ?_⟩
              intro n9 hn9
              have sX := same_upd (o := .tup [.int (doc : Nat), .int (seg : Nat)]) hn9
              refine ⟨_, rfl, _, rfl, l8, w8, _, rfl, sX.seq (SqL.of hl9), al9.mono (fun _ _ z => RecV.same sX z), fun H10 ov s10 hov => ?_⟩
              refine ⟨_, rfl, _, rfl, _, rfl, ?_⟩
              have sY := sX.trans s10
              have hcount : ((ts1.length : Nat) : Int) + ((ts2.length : Nat) : Int) = ((FhWork.piecesOf ⟨FhWork.stampOf tick who, 1, (doc, seg), state, FhWork.overOf (x.at_ j) (doc, seg), sr.1, sr.2⟩ : Nat) : Int) := by
                rw [i4.2.1.len, k4.2.1.len]
                exact (Int.natCast_add _ _).symm
              refine make_enter (hI.same sY) (r := ⟨FhWork.stampOf tick who, 1, (doc, seg), state, FhWork.overOf (x.at_ j) (doc, seg), sr.1, sr.2⟩) (s10 _ _ upd_same) hov ?_ ?_ hcount cs ?_ (h.up sY)
              · rw [show Fh.rowText sr.1 = src from text_of_read g3]
                exact sY _ _ hA
              · rw [show Fh.rowText sr.2 = row from text_of_read g4]
                exact sY _ _ hB
              · refine ⟨.inl rfl, (fun z => by cases z), ?_, (fun z => by rcases z with z | z <;> cases z), ?_, (fun z => by cases z), over_cl cl, ?_, (by show state ≤ 4; omega)⟩
                · exact over_few _ _
                · show (Fh.rowText sr.1).length ≤ 20000 ∧ (Fh.rowText sr.2).length ≤ 20000
                  rw [text_of_read g3, text_of_read g4]
                  exact ⟨la, lb⟩
                · show Fh.rowRead (Fh.rowText sr.1) = .ok sr.1 ∧ Fh.rowRead (Fh.rowText sr.2) = .ok sr.2
                  rw [text_of_read g3, text_of_read g4]
                  exact ⟨g3, g4⟩
end
end Fj
set_option Elab.async false
set_option linter.all false
set_option maxRecDepth 100000
set_option maxHeartbeats 4000000
namespace Fj
open PySem PySem.Spec PyProof.Rows L2
open Fh (Bytes Piece)
open FhWork (Rec Journal Name)
theorem better_mem {rs : List Rec} : ∀ {a : Option Rec} {r : Rec}, rs.foldl FhWork.better a = some r → r ∈ rs ∨ a = some r := by
  induction rs with
  | nil => exact fun h => .inr h
  | cons y rs ih =>
    intro a r h
    rcases ih (a := FhWork.better a y) h with e | e
    · exact .inl (List.mem_cons_of_mem _ e)
    · cases a with
      | none => exact .inl (by rw [Option.some.inj e]; exact List.mem_cons_self)
      | some x =>
        unfold FhWork.better at e
        simp only at e
        split at e
        · exact .inl (by rw [Option.some.inj e]; exact List.mem_cons_self)
        · exact .inr e
theorem standing_mem {j : Journal} (ok : JOk j) {n : Name} {r : Rec} (h : FhWork.standing j n = some r) : r ∈ FhWork.heads j n ∧ r ∈ j ∧ (r.kind = 1 ∨ r.kind = 2) := by
  unfold FhWork.standing at h
  rcases better_mem h with e | e
  · obtain ⟨m, k⟩ := List.mem_filter.mp e
    have mw := (List.mem_filter.mp m).1
    obtain ⟨mj, wk⟩ := List.mem_filter.mp mw
    refine ⟨m, mj, ?_⟩
    simp only [Bool.and_eq_true] at wk
    have wk := wk.1
    rw [works_kind (ok.recs r mj)] at wk
    have := (ok.recs r mj).kind
    simp at k wk
    omega
  · cases e
section
variable {P : Program} {w : World} {K : PySem.W.Frag} {mg : Str → Option Value} {base : Heap}
def spRule (K : PySem.W.Frag) : Sp := fun vs H Q _ => ∃ (L : Addr) (x : FhJournals.State) (j who tick doc seg state : Nat),
  vs = [.ref L, .int (j : Nat), .int (who : Nat), .int (tick : Nat), .int (doc : Nat), .int (seg : Nat), .int (state : Nat)] ∧ StAt K H L x ∧
  Ans K H L (FhJournals.step x (.rule j who tick doc seg state)) Q
theorem sc_rule : FnScope ["journals", "j", "who", "tick", "doc", "seg", "state", "journal", "heads", "head", "stamp", "verdict"] ["journals", "j", "who", "tick", "doc", "seg", "state"] (defScope s_rule) := ⟨rfl, rfl, rfl, by decide +kernel, rfl, by decide +kernel, by decide +kernel⟩
theorem ok_rule (T : Tx K mg) : OkF P w K mg base 10 "rule" ["journals", "j", "who", "tick", "doc", "seg", "state"] (spRule K) := by
  refine okf (d := d_rule) 46 46 (N := ["journals", "j", "who", "tick", "doc", "seg", "state", "journal", "heads", "head", "stamp", "verdict"]) T rfl rfl rfl rfl rfl sc_rule (fun _ _ _ _ _ _ us hl => match us, hl with | [_, _, _, _, _, _, _], _ => rfl) (fun vs H Q E h => ?_) (fun f cdv A outer s H vs Q E hr h => ?_)
  · obtain ⟨L, x, j, who, tick, doc, seg, state, rfl, st, h⟩ := h
    rfl
  · obtain ⟨L, x, j, who, tick, doc, seg, state, rfl, st, h⟩ := h
    have hu := hu_of hr
    refine ⟨_, (pss_mid (ps_if (PW.pt (pw_or (pt_val (pe_callF (ok_stamp_is_beyond T) (hr.mono (by decide)) (pa_cons (pv 2) (pa_cons (pv 3) pa_nil)))) (pw_or1 (pt_val (pe_callF (ok_name_is_beyond T) (hr.mono (by decide)) (pa_cons (pv 4) (pa_cons (pv 5) pa_nil))))))) (pss_one (ps_ret (pe_lst (pa_cons (pe_un un_neg pe_int) pa_nil)))) pss_nil)
      (pss_mid (ps_if (PW.pt (pw_or (pt_val (pe_callF (ok_is_no_journal T) (hr.mono (by decide)) (pa_cons (pv 1) pa_nil))) (pw_or1 (pt_not (pt_val (pe_callF (ok_state_may_be T) (hr.mono (by decide)) (pa_cons (pe_gi T.i_VERDICT) (pa_cons (pv 6) pa_nil)))))))) (pss_one (ps_ret (pe_lst (pa_cons (pe_un un_neg pe_int) pa_nil)))) pss_nil)
      (pss_cons (ps_set (i := 7) sc_rule.nd rfl (Or.inl rfl) (pe_ix ix_list (pv 0) (pv 1) (fun _ _ => rfl)))
      (pss_cons (ps_set (i := 8) sc_rule.nd rfl (Or.inl rfl) (pe_callF (ok_heads_of T) (hr.mono (by decide)) (pa_cons (pe_callF (ok_records_of T) (hr.mono (by decide)) (pa_cons (pv 7) (pa_cons (pe_tup (pa_cons (pv 4) (pa_cons (pv 5) pa_nil))) pa_nil))) pa_nil)))
      (pss_cons (ps_set (i := 9) sc_rule.nd rfl (Or.inl rfl) (pe_callF (ok_standing T) (hr.mono (by decide)) (pa_cons (pv 8) pa_nil)))
      (pss_cons (ps_if (pt_cmpR op_isN (pv 9) pe_non (nomark _)) (pss_one (ps_ret (pe_lst (pa_cons (pe_un un_neg pe_int) pa_nil)))) pss_nil)
      (pss_cons (ps_set (i := 10) sc_rule.nd rfl (Or.inl rfl) (pe_callF (ok_stamp_number T) (hr.mono (by decide)) (pa_cons (pv 3) (pa_cons (pv 2) pa_nil))))
      (pss_cons (ps_if (PW.pt (pw_or (pt_val (pe_meth (pv 7) T.c_Journal T.m_Journal_has_stamp (ok_Journal_has_stamp T) (hr.mono (by decide)) (b_Journal_has_stamp T) .nil pass0 (pa_cons (pv 10) pa_nil))) (pw_or (pt_val (pe_callF (ok_some_head_is_late T) (hr.mono (by decide)) (pa_cons (pv 8) (pa_cons (pv 3) pa_nil)))) (pw_or1 (pt_val (pe_callF (ok_in_conflict T) (hr.mono (by decide)) (pa_cons (pv 8) pa_nil))))))) (pss_one (ps_ret (pe_lst (pa_cons (pe_un un_neg pe_int) pa_nil)))) pss_nil)
      (pss_cons (ps_set (i := 11) sc_rule.nd rfl (Or.inl rfl) (pe_make T.k_Record (ok_Record_init T) (hr.mono (by decide)) rfl T.g_Record (b_Record_init T) .nil pass0 (pa_cons (pv 10) (pa_cons (pe_gi T.i_VERDICT) (pa_cons (pe_tup (pa_cons (pv 4) (pa_cons (pv 5) pa_nil))) (pa_cons (pv 6) (pa_cons (pe_lst (pa_cons (pe_fld (pv 9) rfl) pa_nil)) (pa_cons (pe_lst pa_nil) (pa_cons (pe_lst pa_nil) (pa_cons pe_int pa_nil))))))))))
      (pss_cons (ps_if (pt_val (pe_callF (ok_approves_own T) (hr.mono (by decide)) (pa_cons (pv 7) (pa_cons (pv 11) pa_nil)))) (pss_one (ps_ret (pe_lst (pa_cons (pe_un un_neg pe_int) pa_nil)))) pss_nil)
      (pss_one (ps_ret (pe_callF (ok_enter T) (hr.mono (by decide)) (pa_cons (pv 7) (pa_cons (pv 11) pa_nil))))))))))))))), ?_⟩
    have e0 : FhJournals.step x (.rule j who tick doc seg state) = if FhJournals.wide who tick doc seg = true then (x, FhJournals.says (-6)) else if 2 < j ∨ state < 1 ∨ 4 < state then (x, FhJournals.says (-1)) else FhJournals.changed x j (FhWork.rule (x.at_ j) tick who (doc, seg) state) := rfl
    refine ⟨Mid0 H [some (.ref L), some (.int (j : Nat)), some (.int (who : Nat)), some (.int (tick : Nat)), some (.int (doc : Nat)), some (.int (seg : Nat)), some (.int (state : Nat)), none, none, none, none, none] (wideI who tick doc seg = false), ?_, ?_⟩
    · simp [tSeq, tIfS, tTest, tOp, rEq, rNe, rI0, rI, tVar, tC, tRet, tNext, L2.start, scal_ii, scal_nn, scal_in, scal_ni, scal_bb, line1, line2, line3, line7, tAnd, tOr, tNot, CDiv, CMul, tAsg, gName, tAndV, tOrV, tNotV, tCall, tCons, tNil, tCB, rU, tUn, tIf, tB, cx_K, cx_noxK, rIxL, rIxT, spI2, spLong, tLst]
      have no : wideI who tick doc seg = true → ∀ p, H p = none → Q (.ref p) (upd H p (.lst [.int (-6)])) := fun z => by
        rw [e0, if_pos (by rw [wide_is]; exact z)] at h
        exact h.no st
      have wi : wideI who tick doc seg = true ↔ ((255 : Int) < (who : Nat) ∨ (1099511627776 : Int) ≤ (tick : Nat)) ∨ ((15 : Int) < (doc : Nat) ∨ (65535 : Int) < (seg : Nat)) := by
        unfold wideI
        simp only [Bool.or_eq_true, decide_eq_true_eq]
      refine ⟨_, _, ⟨rfl, rfl⟩, ?_⟩
      by_cases c1 : (255 : Int) < (who : Nat) ∨ (1099511627776 : Int) ≤ (tick : Nat)
      · rw [if_pos c1]
        exact no (wi.mpr (.inl c1))
      rw [if_neg c1]
      refine ⟨_, _, ⟨rfl, rfl⟩, ?_⟩
      by_cases c2 : (15 : Int) < (doc : Nat) ∨ (65535 : Int) < (seg : Nat)
      · rw [if_pos c2]
        exact no (wi.mpr (.inr c2))
      rw [if_neg c2]
      refine ⟨rfl, rfl, ?_⟩
      cases q : wideI who tick doc seg with
      | false => rfl
      | true => exact absurd (wi.mp q) (by simp only [not_or] at c1 c2 ⊢; exact ⟨c1, c2⟩)
    · rintro σ H1 ⟨rfl, rfl, nw⟩
      rw [e0, if_neg (by rw [wide_is, nw]; simp)] at h
      clear e0
      refine ⟨Mid0 H1 [some (.ref L), some (.int (j : Nat)), some (.int (who : Nat)), some (.int (tick : Nat)), some (.int (doc : Nat)), some (.int (seg : Nat)), some (.int (state : Nat)), none, none, none, none, none] (¬ (2 < j ∨ state < 1 ∨ 4 < state)), ?_, ?_⟩
      · simp [tSeq, tIfS, tTest, tOp, rEq, rNe, rI0, rI, tVar, tC, tRet, tNext, L2.start, scal_ii, scal_nn, scal_in, scal_ni, scal_bb, line1, line2, line3, line7, tAnd, tOr, tNot, CDiv, CMul, tAsg, gName, tAndV, tOrV, tNotV, tCall, tCons, tNil, tCB, rU, tUn, tIf, tB, cx_K, cx_noxK, rIxL, rIxT, spI1, tLst]
        have no : (2 < j ∨ state < 1 ∨ 4 < state) → ∀ p, H1 p = none → Q (.ref p) (upd H1 p (.lst [.int (-1)])) := fun z => by
          rw [if_pos z] at h
          exact h.no st
        by_cases c1 : (2 : Int) < (j : Nat)
        · rw [if_pos c1]
          exact no (.inl (by omega))
        rw [if_neg c1]
        refine ⟨2, state, rfl, ?_⟩
        have es : stateOk 2 state = decide (1 ≤ state ∧ state ≤ 4) := rfl
        rw [es]
        by_cases c2 : 1 ≤ state ∧ state ≤ 4
        · rw [decide_eq_true c2]
          exact .inr ⟨rfl, rfl, rfl, by omega, by omega, by omega⟩
        · rw [decide_eq_false c2]
          exact .inl ⟨rfl, no (by omega)⟩
      · rintro σ H6 ⟨rfl, rfl, ns⟩
        rw [if_neg ns] at h
        simp [tSeq, tIfS, tTest, tOp, rEq, rNe, rI0, rI, tVar, tC, tRet, tNext, L2.start, scal_ii, scal_nn, scal_in, scal_ni, scal_bb, line1, line2, line3, line7, tAnd, tOr, tNot, CDiv, CMul, tAsg, gName, tAndV, tOrV, tNotV, tCall, tCons, tNil, tCB, rU, tUn, tIf, tB, cx_K, cx_noxK, rIxL, rIxT, tLst, rNeI]
        obtain ⟨J, d, vs, c1, c2, hJ, put⟩ := st.get (i := j) (by omega)
        refine ⟨_, SqL.of c1, _, atI_nat c2, ?_⟩
        refine ⟨_, rfl, _, rfl, line2, fun nm hnm => ?_⟩
        have sn := same_upd (o := .tup [.int (doc : Nat), .int (seg : Nat)]) hnm
        refine ⟨J, d, nm, x.at_ j, (doc, seg), rfl, hJ.same sn, upd_same, fun H7 l7 w7 s7 hl7 al7 => ?_⟩
        refine ⟨l7, w7, _, rfl, SqL.of hl7, al7, ?_, ?_, fun H8 l8 w8 s8 hl8 al8 => ?_⟩
        · exact Nat.le_trans (List.length_filter_le _ _) hJ.ok.few
        · exact fun r hr => (hJ.ok.recs r (List.mem_filter.mp hr).1).ov
        have sB := (sn.trans s7).trans s8
        have hI : JIn K H8 L x j J d := JIn.same sB ⟨hJ, put, st⟩
        have h := h.up sB
        clear hJ put st sB sn s7 s8 hl7 al7 c1
        rw [← heads_seg hI.at_.ok] at al8
        obtain ⟨dx, ho⟩ := hI.at_.ob
        refine ⟨l8, w8, _, rfl, SqL.of hl8, al8, fun v hv => ?_⟩
        have es : standM (FhWork.heads (x.at_ j) (doc, seg)) = FhWork.standing (x.at_ j) (doc, seg) := rfl
        rw [es] at hv
        cases cst : FhWork.standing (x.at_ j) (doc, seg) with
        | none =>
          rw [cst] at hv
          obtain rfl := hv
          dsimp only
          rw [if_pos rfl]
          have e : FhWork.rule (x.at_ j) tick who (doc, seg) state = .error .nothing := by unfold FhWork.rule; rw [cst]
          rw [e] at h
          exact h.no hI.all
        | some hr =>
          rw [cst] at hv
          obtain ⟨ph, rfl, Rh⟩ := hv
          dsimp only
          rw [if_neg (by intro z; cases z)]
          have eR : FhWork.rule (x.at_ j) tick who (doc, seg) state = if FhWork.late (x.at_ j) tick who (doc, seg) = true ∨ FhWork.inConflict (x.at_ j) (doc, seg) = true ∨ (state = 4 ∧ FhWork.hand (x.at_ j) hr = who) then .error .notNow else FhWork.added (x.at_ j) ⟨FhWork.stampOf tick who, 2, (doc, seg), state, [hr.stamp], [], []⟩ := by
            unfold FhWork.rule
            rw [cst]
          rw [eR] at h
          clear eR
          obtain ⟨mh, mj, kd⟩ := standing_mem hI.at_.ok cst
          refine ⟨_, _, rfl, ?_⟩
          dsimp only
          rw [stamp_int]
          refine ⟨_, rfl, J, dx, _, rfl, ho, rfl, _, rfl, J, d, x.at_ j, FhWork.stampOf tick who, rfl, hI.at_, ?_⟩
          cases cs : (x.at_ j).has (FhWork.stampOf tick who) with
          | true =>
            refine .inr ⟨rfl, ?_⟩
            rw [if_pos (.inl (by unfold FhWork.late; rw [cs]; rfl))] at h
            exact h.no hI.all
          | false =>
            refine .inl ⟨rfl, l8, w8, _, tick, rfl, SqL.of hl8, al8, ?_, fun H9 s9 => ?_⟩
            · exact Nat.le_trans (List.length_filter_le _ _) (Nat.le_trans (List.length_filter_le _ _) hI.at_.ok.few)
            have hI := hI.same s9
            have h := h.up s9
            have hl9 := s9 _ _ hl8
            have al9 := al8.mono fun _ _ z => RecV.same s9 z
            have Rh := Rh.same s9
            cases cl : (FhWork.heads (x.at_ j) (doc, seg)).any fun r => decide (tick ≤ FhWork.tickOf r.stamp) with
            | true =>
              refine .inr ⟨rfl, ?_⟩
              rw [if_pos (.inl (by unfold FhWork.late; rw [cs, cl]; rfl))] at h
              exact h.no hI.all
            | false =>
              have nl : FhWork.late (x.at_ j) tick who (doc, seg) = false := by unfold FhWork.late; rw [cs, cl]; rfl
              refine .inl ⟨rfl, l8, rfl, w8, SqL.of hl9, ?_⟩
              have lw := al9.len
              by_cases cc : 2 ≤ w8.length
              · rw [if_pos cc]
                rw [if_pos (.inr (.inl (by unfold FhWork.inConflict; rw [decide_eq_true_eq, ← lw]; exact cc)))] at h
                exact h.no hI.all
              rw [if_neg cc]
              have nc : FhWork.inConflict (x.at_ j) (doc, seg) = false := by unfold FhWork.inConflict; rw [decide_eq_false_iff_not, ← lw]; exact cc
              refine ⟨_, rfl, _, rfl, _, rfl, line2, ?_⟩
              intro n9 hn9
              have sX := same_upd (o := .tup [.int (doc : Nat), .int (seg : Nat)]) hn9
              obtain ⟨y1, y2, y3, y4, y5, y6, _⟩ := Rh.ex
              refine ⟨_, rfl, _, rfl, _, _, _, _, _, rfl, sX _ _ y6, T.c_Record, T.n_Record_stamp, recF_stamp _ _ _ _ _ _ _ _, ?_⟩
              refine ⟨line1, ?_⟩
              intro ov hov
              have sY := same_upd (o := .lst [.int (hr.stamp : Nat)]) hov
              refine ⟨Nat.zero_le _, ?_⟩
              intro so hso
              have sZ := same_upd (o := .lst []) hso
              refine ⟨Nat.zero_le _, ?_⟩
              intro ro hro
              have sW := same_upd (o := .lst []) hro
              have sA := ((sX.trans sY).trans sZ).trans sW
              intro p dp np ndp ne
              refine make_rec (r := ⟨FhWork.stampOf tick who, 2, (doc, seg), state, [hr.stamp], [], []⟩) (((sY.trans sZ).trans sW) _ _ upd_same) ((sZ.trans sW) _ _ upd_same) (sW _ _ upd_same) upd_same rfl np ndp fun H2 s2 R => ⟨rfl, ?_⟩
              have hI := hI.same (sA.trans s2)
              have h := h.up (sA.trans s2)
              clear sA sX sY sZ sW s2 s9
              have ha := at_of hI.at_.ok.sorted mj
              refine ⟨J, d, p, x.at_ j, _, rfl, hI.at_, R, fun _ => ⟨hr.stamp, hr, rfl, ha, kd⟩, ?_⟩
              obtain ⟨xo, og, _⟩ := org_ex hI.at_.ok _ hr mj (Nat.le_refl _)
              obtain ⟨hh, _⟩ := hand_of hI.at_.ok mj (by omega) og
              have hn := hand_new hI.at_.ok (r := ⟨FhWork.stampOf tick who, 2, (doc, seg), state, [hr.stamp], [], []⟩) rfl rfl ha kd (.over rfl rfl ha og)
              have hw : FhWork.whoOf (FhWork.stampOf tick who) = who := by
                unfold wideI at nw
                simp only [Bool.or_eq_false_iff, decide_eq_false_iff_not] at nw
                unfold FhWork.whoOf FhWork.stampOf
                omega
              have eo : ownEye (x.at_ j) ⟨FhWork.stampOf tick who, 2, (doc, seg), state, [hr.stamp], [], []⟩ = decide (state = 4 ∧ FhWork.hand (x.at_ j) hr = who) := by
                unfold ownEye
                rw [hn, hh, hw, Bool.eq_iff_iff]
                simp
              rw [eo]
              by_cases cw : state = 4 ∧ FhWork.hand (x.at_ j) hr = who
              · rw [if_pos (.inr (.inr cw))] at h
                rw [decide_eq_true cw]
                exact .inr ⟨rfl, h.no hI.all⟩
              · rw [if_neg (by rw [nl, nc]; simp only [Bool.false_eq_true, false_or]; exact cw)] at h
                rw [decide_eq_false cw]
                refine .inl ⟨rfl, enter_ans hI R cs ?_ h⟩
                refine ⟨.inr (.inl rfl), (fun z => by cases z), (show 1 ≤ 16 by decide), fun _ => ⟨rfl, rfl⟩, ⟨Nat.zero_le _, Nat.zero_le _⟩, fun _ => ⟨hr.stamp, hr, rfl, ha, kd, not_late cl mh⟩, fun s' hs => ?_, ⟨rfl, rfl⟩, (by show state ≤ 4; omega)⟩
                rw [List.mem_singleton.mp hs]
                exact ⟨⟨hr, mj, rfl⟩, not_late cl mh⟩
def spBack (K : PySem.W.Frag) : Sp := fun vs H Q _ => ∃ (L : Addr) (x : FhJournals.State) (j who tick doc seg : Nat),
  vs = [.ref L, .int (j : Nat), .int (who : Nat), .int (tick : Nat), .int (doc : Nat), .int (seg : Nat)] ∧ StAt K H L x ∧
  Ans K H L (FhJournals.step x (.back j who tick doc seg)) Q
theorem sc_back : FnScope ["journals", "j", "who", "tick", "doc", "seg", "journal", "heads", "stamp"] ["journals", "j", "who", "tick", "doc", "seg"] (defScope s_back) := ⟨rfl, rfl, rfl, by decide +kernel, rfl, by decide +kernel, by decide +kernel⟩
theorem ok_back (T : Tx K mg) : OkF P w K mg base 10 "back" ["journals", "j", "who", "tick", "doc", "seg"] (spBack K) := by
  refine okf (d := d_back) 47 47 (N := ["journals", "j", "who", "tick", "doc", "seg", "journal", "heads", "stamp"]) T rfl rfl rfl rfl rfl sc_back (fun _ _ _ _ _ _ us hl => match us, hl with | [_, _, _, _, _, _], _ => rfl) (fun vs H Q E h => ?_) (fun f cdv A outer s H vs Q E hr h => ?_)
  · obtain ⟨L, x, j, who, tick, doc, seg, rfl, st, h⟩ := h
    rfl
  · obtain ⟨L, x, j, who, tick, doc, seg, rfl, st, h⟩ := h
    have hu := hu_of hr
    refine ⟨_, (pss_mid (ps_if (PW.pt (pw_or (pt_val (pe_callF (ok_stamp_is_beyond T) (hr.mono (by decide)) (pa_cons (pv 2) (pa_cons (pv 3) pa_nil)))) (pw_or1 (pt_val (pe_callF (ok_name_is_beyond T) (hr.mono (by decide)) (pa_cons (pv 4) (pa_cons (pv 5) pa_nil))))))) (pss_one (ps_ret (pe_lst (pa_cons (pe_un un_neg pe_int) pa_nil)))) pss_nil)
      (pss_mid (ps_if (pt_val (pe_callF (ok_is_no_journal T) (hr.mono (by decide)) (pa_cons (pv 1) pa_nil))) (pss_one (ps_ret (pe_lst (pa_cons (pe_un un_neg pe_int) pa_nil)))) pss_nil)
      (pss_cons (ps_set (i := 6) sc_back.nd rfl (Or.inl rfl) (pe_ix ix_list (pv 0) (pv 1) (fun _ _ => rfl)))
      (pss_cons (ps_set (i := 7) sc_back.nd rfl (Or.inl rfl) (pe_callF (ok_heads_of T) (hr.mono (by decide)) (pa_cons (pe_callF (ok_records_of T) (hr.mono (by decide)) (pa_cons (pv 6) (pa_cons (pe_tup (pa_cons (pv 4) (pa_cons (pv 5) pa_nil))) pa_nil))) pa_nil)))
      (pss_cons (ps_if (pt_cmpR op_isN (pe_callF (ok_standing T) (hr.mono (by decide)) (pa_cons (pv 7) pa_nil)) pe_non (nomark _)) (pss_one (ps_ret (pe_lst (pa_cons (pe_un un_neg pe_int) pa_nil)))) pss_nil)
      (pss_cons (ps_set (i := 8) sc_back.nd rfl (Or.inl rfl) (pe_callF (ok_stamp_number T) (hr.mono (by decide)) (pa_cons (pv 3) (pa_cons (pv 2) pa_nil))))
      (pss_cons (ps_if (PW.pt (pw_or (pt_val (pe_meth (pv 6) T.c_Journal T.m_Journal_has_stamp (ok_Journal_has_stamp T) (hr.mono (by decide)) (b_Journal_has_stamp T) .nil pass0 (pa_cons (pv 8) pa_nil))) (pw_or1 (pt_val (pe_callF (ok_some_head_is_late T) (hr.mono (by decide)) (pa_cons (pv 7) (pa_cons (pv 3) pa_nil))))))) (pss_one (ps_ret (pe_lst (pa_cons (pe_un un_neg pe_int) pa_nil)))) pss_nil)
      (pss_one (ps_ret (pe_callF (ok_enter T) (hr.mono (by decide)) (pa_cons (pv 6) (pa_cons (pe_make T.k_Record (ok_Record_init T) (hr.mono (by decide)) rfl T.g_Record (b_Record_init T) .nil pass0 (pa_cons (pv 8) (pa_cons (pe_gi T.i_TAKING_BACK) (pa_cons (pe_tup (pa_cons (pv 4) (pa_cons (pv 5) pa_nil))) (pa_cons pe_int (pa_cons (pe_callF (ok_stamps_over T) (hr.mono (by decide)) (pa_cons (pv 7) pa_nil)) (pa_cons (pe_lst pa_nil) (pa_cons (pe_lst pa_nil) (pa_cons pe_int pa_nil))))))))) pa_nil)))))))))))), ?_⟩
    have e0 : FhJournals.step x (.back j who tick doc seg) = if FhJournals.wide who tick doc seg = true then (x, FhJournals.says (-6)) else if 2 < j then (x, FhJournals.says (-1)) else FhJournals.changed x j (FhWork.takeBack (x.at_ j) tick who (doc, seg)) := rfl
    refine ⟨Mid0 H [some (.ref L), some (.int (j : Nat)), some (.int (who : Nat)), some (.int (tick : Nat)), some (.int (doc : Nat)), some (.int (seg : Nat)), none, none, none] (wideI who tick doc seg = false), ?_, ?_⟩
    · simp [tSeq, tIfS, tTest, tOp, rEq, rNe, rI0, rI, tVar, tC, tRet, tNext, L2.start, scal_ii, scal_nn, scal_in, scal_ni, scal_bb, line1, line2, line3, line7, tAnd, tOr, tNot, CDiv, CMul, tAsg, gName, tAndV, tOrV, tNotV, tCall, tCons, tNil, tCB, rU, tUn, tIf, tB, cx_K, cx_noxK, rIxL, rIxT, spI2, spLong, tLst]
      have no : wideI who tick doc seg = true → ∀ p, H p = none → Q (.ref p) (upd H p (.lst [.int (-6)])) := fun z => by
        rw [e0, if_pos (by rw [wide_is]; exact z)] at h
        exact h.no st
      have wi : wideI who tick doc seg = true ↔ ((255 : Int) < (who : Nat) ∨ (1099511627776 : Int) ≤ (tick : Nat)) ∨ ((15 : Int) < (doc : Nat) ∨ (65535 : Int) < (seg : Nat)) := by
        unfold wideI
        simp only [Bool.or_eq_true, decide_eq_true_eq]
      refine ⟨_, _, ⟨rfl, rfl⟩, ?_⟩
      by_cases c1 : (255 : Int) < (who : Nat) ∨ (1099511627776 : Int) ≤ (tick : Nat)
      · rw [if_pos c1]
        exact no (wi.mpr (.inl c1))
      rw [if_neg c1]
      refine ⟨_, _, ⟨rfl, rfl⟩, ?_⟩
      by_cases c2 : (15 : Int) < (doc : Nat) ∨ (65535 : Int) < (seg : Nat)
      · rw [if_pos c2]
        exact no (wi.mpr (.inr c2))
      rw [if_neg c2]
      refine ⟨rfl, rfl, ?_⟩
      cases q : wideI who tick doc seg with
      | false => rfl
      | true => exact absurd (wi.mp q) (by simp only [not_or] at c1 c2 ⊢; exact ⟨c1, c2⟩)
    · rintro σ H1 ⟨rfl, rfl, nw⟩
      rw [e0, if_neg (by rw [wide_is, nw]; simp)] at h
      clear e0
      refine ⟨Mid0 H1 [some (.ref L), some (.int (j : Nat)), some (.int (who : Nat)), some (.int (tick : Nat)), some (.int (doc : Nat)), some (.int (seg : Nat)), none, none, none] (¬ (2 < j)), ?_, ?_⟩
      · simp [tSeq, tIfS, tTest, tOp, rEq, rNe, rI0, rI, tVar, tC, tRet, tNext, L2.start, scal_ii, scal_nn, scal_in, scal_ni, scal_bb, line1, line2, line3, line7, tAnd, tOr, tNot, CDiv, CMul, tAsg, gName, tAndV, tOrV, tNotV, tCall, tCons, tNil, tCB, rU, tUn, tIf, tB, cx_K, cx_noxK, rIxL, rIxT, spI1, tLst]
        by_cases c1 : (2 : Int) < (j : Nat)
        · rw [if_pos c1]
          rw [if_pos (by omega)] at h
          exact h.no st
        rw [if_neg c1]
        exact ⟨rfl, rfl, by omega⟩
      · rintro σ H6 ⟨rfl, rfl, ns⟩
        rw [if_neg ns] at h
        simp [tSeq, tIfS, tTest, tOp, rEq, rNe, rI0, rI, tVar, tC, tRet, tNext, L2.start, scal_ii, scal_nn, scal_in, scal_ni, scal_bb, line1, line2, line3, line7, tAnd, tOr, tNot, CDiv, CMul, tAsg, gName, tAndV, tOrV, tNotV, tCall, tCons, tNil, tCB, rU, tUn, tIf, tB, cx_K, cx_noxK, rIxL, rIxT, tLst, rNeI]
        obtain ⟨J, d, vs, c1, c2, hJ, put⟩ := st.get (i := j) (by omega)
        refine ⟨_, SqL.of c1, _, atI_nat c2, ?_⟩
        refine ⟨_, rfl, _, rfl, line2, fun nm hnm => ?_⟩
        have sn := same_upd (o := .tup [.int (doc : Nat), .int (seg : Nat)]) hnm
        refine ⟨J, d, nm, x.at_ j, (doc, seg), rfl, hJ.same sn, upd_same, fun H7 l7 w7 s7 hl7 al7 => ?_⟩
        refine ⟨l7, w7, _, rfl, SqL.of hl7, al7, ?_, ?_, fun H8 l8 w8 s8 hl8 al8 => ?_⟩
        · exact Nat.le_trans (List.length_filter_le _ _) hJ.ok.few
        · exact fun r hr => (hJ.ok.recs r (List.mem_filter.mp hr).1).ov
        have sB := (sn.trans s7).trans s8
        have hI : JIn K H8 L x j J d := JIn.same sB ⟨hJ, put, st⟩
        have h := h.up sB
        clear hJ put st sB sn s7 s8 hl7 al7 c1
        rw [← heads_seg hI.at_.ok] at al8
        obtain ⟨dx, ho⟩ := hI.at_.ob
        refine ⟨l8, w8, _, rfl, SqL.of hl8, al8, fun v hv => ?_⟩
        have es : standM (FhWork.heads (x.at_ j) (doc, seg)) = FhWork.standing (x.at_ j) (doc, seg) := rfl
        rw [es] at hv
        cases cst : FhWork.standing (x.at_ j) (doc, seg) with
        | none =>
          rw [cst] at hv
          obtain rfl := hv
          dsimp only
          rw [if_pos rfl]
          have e : FhWork.takeBack (x.at_ j) tick who (doc, seg) = .error .nothing := by unfold FhWork.takeBack; rw [cst]
          rw [e] at h
          exact h.no hI.all
        | some hr =>
          rw [cst] at hv
          obtain ⟨ph, rfl, Rh⟩ := hv
          dsimp only
          rw [if_neg (by intro z; cases z)]
          have eR : FhWork.takeBack (x.at_ j) tick who (doc, seg) = if FhWork.late (x.at_ j) tick who (doc, seg) = true then .error .notNow else FhWork.added (x.at_ j) ⟨FhWork.stampOf tick who, 3, (doc, seg), 0, FhWork.overOf (x.at_ j) (doc, seg), [], []⟩ := by
            unfold FhWork.takeBack
            rw [cst]
          rw [eR] at h
          clear eR
          refine ⟨_, _, rfl, ?_⟩
          dsimp only
          rw [stamp_int]
          refine ⟨_, rfl, J, dx, _, rfl, ho, rfl, _, rfl, J, d, x.at_ j, FhWork.stampOf tick who, rfl, hI.at_, ?_⟩
          cases cs : (x.at_ j).has (FhWork.stampOf tick who) with
          | true =>
            refine .inr ⟨rfl, ?_⟩
            rw [if_pos (by unfold FhWork.late; rw [cs]; rfl)] at h
            exact h.no hI.all
          | false =>
            refine .inl ⟨rfl, l8, w8, _, tick, rfl, SqL.of hl8, al8, ?_, fun H9 s9 => ?_⟩
            · exact Nat.le_trans (List.length_filter_le _ _) (Nat.le_trans (List.length_filter_le _ _) hI.at_.ok.few)
            have hI := hI.same s9
            have h := h.up s9
            have hl9 := s9 _ _ hl8
            have al9 := al8.mono fun _ _ z => RecV.same s9 z
            cases cl : (FhWork.heads (x.at_ j) (doc, seg)).any fun r => decide (tick ≤ FhWork.tickOf r.stamp) with
            | true =>
              refine .inr ⟨rfl, ?_⟩
              rw [if_pos (by unfold FhWork.late; rw [cs, cl]; rfl)] at h
              exact h.no hI.all
            | false =>
              have nl : FhWork.late (x.at_ j) tick who (doc, seg) = false := by unfold FhWork.late; rw [cs, cl]; rfl
              rw [if_neg (by rw [nl]; decide)] at h
              refine .inl ⟨rfl, ?_⟩
              refine ⟨_, rfl, _, rfl, _, rfl, line2, ?_⟩
              intro n9 hn9
              have sX := same_upd (o := .tup [.int (doc : Nat), .int (seg : Nat)]) hn9
              refine ⟨_, rfl, l8, w8, _, rfl, sX.seq (SqL.of hl9), al9.mono (fun _ _ z => RecV.same sX z), fun H10 ov s10 hov => ?_⟩
              refine ⟨Nat.zero_le _, ?_⟩
              intro so hso
              have sZ := same_upd (o := .lst []) hso
              refine ⟨Nat.zero_le _, ?_⟩
              intro ro hro
              have sW := same_upd (o := .lst []) hro
              have sA := ((sX.trans s10).trans sZ).trans sW
              refine make_enter (hI.same sA) (r := ⟨FhWork.stampOf tick who, 3, (doc, seg), 0, FhWork.overOf (x.at_ j) (doc, seg), [], []⟩) (((s10.trans sZ).trans sW) _ _ upd_same) ((sZ.trans sW) _ _ hov) (sW _ _ upd_same) upd_same rfl cs ?_ (h.up sA)
              exact ⟨.inr (.inr (.inl rfl)), (fun z => by cases z), over_few _ _, fun _ => ⟨rfl, rfl⟩, ⟨Nat.zero_le _, Nat.zero_le _⟩, (fun z => by cases z), over_cl cl, ⟨rfl, rfl⟩, Nat.zero_le _⟩
def spRemark (K : PySem.W.Frag) : Sp := fun vs H Q _ => ∃ (L : Addr) (x : FhJournals.State) (j who tick doc seg : Nat) (b : Addr) (row : Bytes),
  vs = [.ref L, .int (j : Nat), .int (who : Nat), .int (tick : Nat), .int (doc : Nat), .int (seg : Nat), .ref b] ∧ StAt K H L x ∧ H b = some (.lst (bv row)) ∧ row.length ≤ 20000 ∧
  Ans K H L (FhJournals.step x (.remark j who tick doc seg row)) Q
theorem sc_remark : FnScope ["journals", "j", "who", "tick", "doc", "seg", "row", "reading", "refusal", "journal", "stamp"] ["journals", "j", "who", "tick", "doc", "seg", "row"] (defScope s_remark) := ⟨rfl, rfl, rfl, by decide +kernel, rfl, by decide +kernel, by decide +kernel⟩
theorem ok_remark (T : Tx K mg) : OkF P w K mg base 10 "remark" ["journals", "j", "who", "tick", "doc", "seg", "row"] (spRemark K) := by
  refine okf (d := d_remark) 48 48 (N := ["journals", "j", "who", "tick", "doc", "seg", "row", "reading", "refusal", "journal", "stamp"]) T rfl rfl rfl rfl rfl sc_remark (fun _ _ _ _ _ _ us hl => match us, hl with | [_, _, _, _, _, _, _], _ => rfl) (fun vs H Q E h => ?_) (fun f cdv A outer s H vs Q E hr h => ?_)
  · obtain ⟨L, x, j, who, tick, doc, seg, b, row, rfl, st, hB, lb, h⟩ := h
    rfl
  · obtain ⟨L, x, j, who, tick, doc, seg, b, row, rfl, st, hB, lb, h⟩ := h
    have hu := hu_of hr
    refine ⟨_, (pss_mid (ps_if (PW.pt (pw_or (pt_val (pe_callF (ok_stamp_is_beyond T) (hr.mono (by decide)) (pa_cons (pv 2) (pa_cons (pv 3) pa_nil)))) (pw_or (pt_val (pe_callF (ok_name_is_beyond T) (hr.mono (by decide)) (pa_cons (pv 4) (pa_cons (pv 5) pa_nil)))) (pw_or1 (pt_val (pe_callF (ok_text_is_beyond T) (hr.mono (by decide)) (pa_cons (pv 6) pa_nil))))))) (pss_one (ps_ret (pe_lst (pa_cons (pe_un un_neg pe_int) pa_nil)))) pss_nil)
      (pss_mid (ps_if (pt_val (pe_callF (ok_is_no_journal T) (hr.mono (by decide)) (pa_cons (pv 1) pa_nil))) (pss_one (ps_ret (pe_lst (pa_cons (pe_un un_neg pe_int) pa_nil)))) pss_nil)
      (pss_cons (ps_set (i := 7) sc_remark.nd rfl (Or.inl rfl) (pe_callF (ok_read_text T) (hr.mono (by decide)) (pa_cons (pv 6) pa_nil)))
      (pss_cons (ps_set (i := 8) sc_remark.nd rfl (Or.inl rfl) (pe_callF (ok_remark_refusal T) (hr.mono (by decide)) (pa_cons (pv 7) pa_nil)))
      (pss_cons (ps_if (pt_cmpR (op_neI hr.units) (pv 8) (pe_lst pa_nil) (nomark _)) (pss_one (ps_ret (pv 8))) pss_nil)
      (pss_cons (ps_set (i := 9) sc_remark.nd rfl (Or.inl rfl) (pe_ix ix_list (pv 0) (pv 1) (fun _ _ => rfl)))
      (pss_cons (ps_set (i := 10) sc_remark.nd rfl (Or.inl rfl) (pe_callF (ok_stamp_number T) (hr.mono (by decide)) (pa_cons (pv 3) (pa_cons (pv 2) pa_nil))))
      (pss_cons (ps_if (pt_val (pe_meth (pv 9) T.c_Journal T.m_Journal_has_stamp (ok_Journal_has_stamp T) (hr.mono (by decide)) (b_Journal_has_stamp T) .nil pass0 (pa_cons (pv 10) pa_nil))) (pss_one (ps_ret (pe_lst (pa_cons (pe_un un_neg pe_int) pa_nil)))) pss_nil)
      (pss_one (ps_ret (pe_callF (ok_enter T) (hr.mono (by decide)) (pa_cons (pv 9) (pa_cons (pe_make T.k_Record (ok_Record_init T) (hr.mono (by decide)) rfl T.g_Record (b_Record_init T) .nil pass0 (pa_cons (pv 10) (pa_cons (pe_gi T.i_REMARK_records) (pa_cons (pe_tup (pa_cons (pv 4) (pa_cons (pv 5) pa_nil))) (pa_cons pe_int (pa_cons (pe_lst pa_nil) (pa_cons (pe_lst pa_nil) (pa_cons (pv 6) (pa_cons (pe_callB call_len_seq (by rfl) T.b_len PySem.boot_len (pa_cons (pe_fld (pv 7) rfl) pa_nil)) pa_nil))))))))) pa_nil))))))))))))), ?_⟩
    have e0 : FhJournals.step x (.remark j who tick doc seg row) = if FhJournals.wide who tick doc seg = true ∨ FhJournals.long row = true then (x, FhJournals.says (-6)) else if 2 < j then (x, FhJournals.says (-1)) else (match FhJournals.wordsGiven row with
      | .error a => (x, a)
      | .ok r => FhJournals.changed x j (FhWork.remark (x.at_ j) tick who (doc, seg) r)) := rfl
    have l2 : FhJournals.long row = false := by unfold FhJournals.long Fh.ROWTEXT; rw [decide_eq_false_iff_not]; omega
    have m2 : decide (65536 < (bv row).length) = false := by rw [bv_len, decide_eq_false_iff_not]; omega
    refine ⟨Mid0 H [some (.ref L), some (.int (j : Nat)), some (.int (who : Nat)), some (.int (tick : Nat)), some (.int (doc : Nat)), some (.int (seg : Nat)), some (.ref b), none, none, none, none] (wideI who tick doc seg = false), ?_, ?_⟩
    · simp [tSeq, tIfS, tTest, tOp, rEq, rNe, rI0, rI, tVar, tC, tRet, tNext, L2.start, scal_ii, scal_nn, scal_in, scal_ni, scal_bb, line1, line2, line3, line7, tAnd, tOr, tNot, CDiv, CMul, tAsg, gName, tAndV, tOrV, tNotV, tCall, tCons, tNil, tCB, rU, tUn, tIf, tB, cx_K, cx_noxK, rIxL, rIxT, spI2, spLong, tLst]
      have no : wideI who tick doc seg = true → ∀ p, H p = none → Q (.ref p) (upd H p (.lst [.int (-6)])) := fun z => by
        rw [e0, if_pos (.inl (by rw [wide_is]; exact z))] at h
        exact h.no st
      have wi : wideI who tick doc seg = true ↔ ((255 : Int) < (who : Nat) ∨ (1099511627776 : Int) ≤ (tick : Nat)) ∨ ((15 : Int) < (doc : Nat) ∨ (65535 : Int) < (seg : Nat)) := by
        unfold wideI
        simp only [Bool.or_eq_true, decide_eq_true_eq]
      refine ⟨_, _, ⟨rfl, rfl⟩, ?_⟩
      by_cases c1 : (255 : Int) < (who : Nat) ∨ (1099511627776 : Int) ≤ (tick : Nat)
      · rw [if_pos c1]
        exact no (wi.mpr (.inl c1))
      rw [if_neg c1]
      refine ⟨_, _, ⟨rfl, rfl⟩, ?_⟩
      by_cases c2 : (15 : Int) < (doc : Nat) ∨ (65535 : Int) < (seg : Nat)
      · rw [if_pos c2]
        exact no (wi.mpr (.inr c2))
      rw [if_neg c2]
      refine ⟨_, SqL.of hB, ?_⟩
      rw [if_neg (by rw [bv_len]; omega)]
      refine ⟨rfl, rfl, ?_⟩
      cases q : wideI who tick doc seg with
      | false => rfl
      | true => exact absurd (wi.mp q) (by simp only [not_or] at c1 c2 ⊢; exact ⟨c1, c2⟩)
    · rintro σ H1 ⟨rfl, rfl, nw⟩
      rw [e0, if_neg (by rw [wide_is, nw, l2]; simp)] at h
      clear e0
      refine ⟨Mid0 H1 [some (.ref L), some (.int (j : Nat)), some (.int (who : Nat)), some (.int (tick : Nat)), some (.int (doc : Nat)), some (.int (seg : Nat)), some (.ref b), none, none, none, none] (¬ (2 < j)), ?_, ?_⟩
      · simp [tSeq, tIfS, tTest, tOp, rEq, rNe, rI0, rI, tVar, tC, tRet, tNext, L2.start, scal_ii, scal_nn, scal_in, scal_ni, scal_bb, line1, line2, line3, line7, tAnd, tOr, tNot, CDiv, CMul, tAsg, gName, tAndV, tOrV, tNotV, tCall, tCons, tNil, tCB, rU, tUn, tIf, tB, cx_K, cx_noxK, rIxL, rIxT, spI1, tLst]
        by_cases c1 : (2 : Int) < (j : Nat)
        · rw [if_pos c1]
          rw [if_pos (by omega)] at h
          exact h.no st
        rw [if_neg c1]
        exact ⟨rfl, rfl, by omega⟩
      · rintro σ H2 ⟨rfl, rfl, ns⟩
        rw [if_neg ns] at h
        simp [tSeq, tIfS, tTest, tOp, rEq, rNe, rI0, rI, tVar, tC, tRet, tNext, L2.start, scal_ii, scal_nn, scal_in, scal_ni, scal_bb, line1, line2, line3, line7, tAnd, tOr, tNot, CDiv, CMul, tAsg, gName, tAndV, tOrV, tNotV, tCall, tCons, tNil, tCB, rU, tUn, tIf, tB, cx_K, cx_noxK, rIxL, rIxT]
        refine ⟨b, row, rfl, SqL.of hB, by omega, fun H3 p1 s3 R1 => ?_⟩
        refine ⟨p1, b, row, rfl, R1, by omega, fun H5 q s5 nq hq => ?_⟩
        simp [tSeq, tIfS, tTest, tOp, rEq, rNe, rI0, rI, tVar, tC, tRet, tNext, L2.start, scal_ii, scal_nn, scal_in, scal_ni, scal_bb, line1, line2, line3, line7, tAnd, tOr, tNot, CDiv, CMul, tAsg, gName, tAndV, tOrV, tNotV, tCall, tCons, tNil, tCB, rU, tUn, tIf, tB, cx_K, cx_noxK, rIxL, rIxT, tLst, rNeI]
        refine fun p hp => ⟨_, SqL.of (same_upd hp _ _ hq), [], SqL.of upd_same, ?_⟩
        have sp := same_upd (o := .lst []) hp
        have sA := (s3.trans s5).trans sp
        rcases words_spec row with ⟨er, g1, g2, g3⟩ | ⟨sr, g1, g2, g4⟩
        · rw [g1] at h
          refine .inr ⟨g3, h.same st sA (s3.free nq) ?_⟩
          rw [← g2]
          exact sp _ _ hq
        · refine .inl ⟨g2, ?_⟩
          rw [g1] at h
          have R1 := R1.same (s5.trans sp)
          have hB := sA _ _ hB
          have st := st.same sA
          have h : Ans K (upd H5 p (.lst [])) L (FhJournals.changed x j (FhWork.remark (x.at_ j) tick who (doc, seg) sr)) Q := h.up sA
          clear hq sp sA s3 s5
          generalize upd H5 p (.lst []) = H6 at *
          obtain ⟨J, d, vs, c1, c2, hJ, put⟩ := st.get (i := j) (by omega)
          have hI : JIn K H6 L x j J d := ⟨hJ, put, st⟩
          obtain ⟨dx, ho⟩ := hI.at_.ob
          refine ⟨_, SqL.of c1, _, atI_nat c2, ?_⟩
          refine ⟨_, _, rfl, ?_⟩
          dsimp only
          rw [stamp_int]
          refine ⟨_, rfl, J, dx, _, rfl, ho, rfl, _, rfl, J, d, x.at_ j, FhWork.stampOf tick who, rfl, hI.at_, ?_⟩
          cases cs : (x.at_ j).has (FhWork.stampOf tick who) with
          | true =>
            refine .inr ⟨rfl, ?_⟩
            have e : FhWork.remark (x.at_ j) tick who (doc, seg) sr = .error .notNow := by unfold FhWork.remark; rw [cs]; rfl
            rw [e] at h
            exact h.no hI.all
          | false =>
            have e : FhWork.remark (x.at_ j) tick who (doc, seg) sr = FhWork.added (x.at_ j) ⟨FhWork.stampOf tick who, 4, (doc, seg), 0, [], [], sr⟩ := by unfold FhWork.remark; rw [cs]; rfl
            rw [e] at h
            refine .inl ⟨rfl, ?_⟩
            obtain ⟨x1, m1, n1, ts1, ss1, fl1, i1, i2, i3, i4⟩ := R1.ex
            rw [g4] at i4
            refine ⟨_, rfl, _, rfl, _, rfl, line2, ?_⟩
            intro n9 hn9
            have sX := same_upd (o := .tup [.int (doc : Nat), .int (seg : Nat)]) hn9
            refine ⟨Nat.zero_le _, ?_⟩
            intro ov hov
            have sY := same_upd (o := .lst []) hov
            refine ⟨Nat.zero_le _, ?_⟩
            intro so hso
            have sZ := same_upd (o := .lst []) hso
            have sA := (sX.trans sY).trans sZ
            refine ⟨_, rfl, _, rfl, _, _, _, _, _, rfl, sA _ _ i1, T.c_Reading, T.n_Reading_pieces, rdF_pieces _ _ _ _, m1, rfl, ts1, .inl (SqL.of (sA _ _ i2)), ?_⟩
            have hcount : ((ts1.length : Nat) : Int) = ((FhWork.piecesOf ⟨FhWork.stampOf tick who, 4, (doc, seg), 0, [], [], sr⟩ : Nat) : Int) := by
              rw [i4.2.1.len]
              unfold FhWork.piecesOf
              simp
            refine make_enter (hI.same sA) (r := ⟨FhWork.stampOf tick who, 4, (doc, seg), 0, [], [], sr⟩) ((sY.trans sZ) _ _ upd_same) (sZ _ _ upd_same) upd_same ?_ hcount cs ?_ (h.up sA)
            · rw [show Fh.rowText sr = row from text_of_read g4]
              exact sA _ _ hB
            · exact ⟨.inr (.inr (.inr rfl)), fun _ => rfl, (show 0 ≤ 16 by decide), (fun z => by rcases z with z | z <;> cases z), (by show (Fh.rowText []).length ≤ 20000 ∧ (Fh.rowText sr).length ≤ 20000; rw [text_of_read g4]; exact ⟨Nat.zero_le _, lb⟩), (fun z => by cases z), (fun s hs => by cases hs), (by show Fh.rowRead (Fh.rowText []) = .ok [] ∧ Fh.rowRead (Fh.rowText sr) = .ok sr; rw [text_of_read g4]; exact ⟨rfl, g4⟩), Nat.zero_le _⟩
end
end Fj
set_option Elab.async false
set_option linter.all false
set_option maxRecDepth 100000
set_option maxHeartbeats 4000000
namespace Fj
open PySem PySem.Spec PyProof.Rows L2
open Fh (Bytes Piece)
open FhWork (Rec Journal Name)
section
variable {P : Program} {w : World} {K : PySem.W.Frag} {mg : Str → Option Value} {base : Heap}
theorem bv_nums (b : Bytes) : (FfNeutral.byteNums b).map V.int = bv b := by
  unfold FfNeutral.byteNums bv
  rw [List.map_map]
  rfl
def told (j : Journal) (r : Rec) (hm which : Nat) : FhJournals.Answer := ⟨0, [r.stamp, r.kind, r.state, hm, FhWork.hand j r], none, some (match FhWork.root j r with
  | some y => Fh.rowText (if which = 0 then y.row else y.source)
  | none => [])⟩
def spTell (K : PySem.W.Frag) : Sp := fun vs H Q _ => ∃ (J d p : Addr) (j : Journal) (r : Rec) (hm which : Nat), vs = [.ref J, .ref p, .int (hm : Nat), .int (which : Nat)] ∧ JAt K H J d j ∧ RecAt K H p r ∧ r ∈ j ∧ r.kind ≠ 4 ∧ which ≤ 1 ∧ Gives H (FfNeutral.numbers (told j r hm which)) Q
theorem sc_tell_head : FnScope ["journal", "record", "how_many", "which", "origin", "text"] ["journal", "record", "how_many", "which"] (defScope s_tell_head) := ⟨rfl, rfl, rfl, by decide +kernel, rfl, by decide +kernel, by decide +kernel⟩
theorem ok_tell_head (T : Tx K mg) : OkF P w K mg base 3 "tell_head" ["journal", "record", "how_many", "which"] (spTell K) := by
  refine okf (d := d_tell_head) 66 66 (N := ["journal", "record", "how_many", "which", "origin", "text"]) T rfl rfl rfl rfl rfl sc_tell_head (fun _ _ _ _ _ _ us hl => match us, hl with | [_, _, _, _], _ => rfl) (fun vs H Q E h => ?_) (fun f cdv A outer s H vs Q E hr h => ?_)
  · obtain ⟨J, d, p, j, r, hm, which, rfl, hJ, R, hr', k4, wl, h⟩ := h
    rfl
  · obtain ⟨J, d, p, j, r, hm, which, rfl, hJ, R, hr', k4, wl, h⟩ := h
    have hu := hu_of hr
    refine ⟨_, (pss_cons (ps_set (i := 4) sc_tell_head.nd rfl (Or.inl rfl) (pe_callF (ok_origin_of T) (hr.mono (by decide)) (pa_cons (pv 0) (pa_cons (pv 1) pa_nil))))
      (pss_cons (ps_set (i := 5) sc_tell_head.nd rfl (Or.inl rfl) (pe_ifExp (pt_cmpR op_eq (pv 3) pe_int (nomark _)) (pe_fld (pv 4) rfl) (pe_fld (pv 4) rfl)))
      (pss_one (ps_ret (pe_op op_cat (pe_lst (pa_cons pe_int (pa_cons (pe_fld (pv 1) rfl) (pa_cons (pe_fld (pv 1) rfl) (pa_cons (pe_fld (pv 1) rfl) (pa_cons (pv 2) (pa_cons (pe_callF (ok_person_of T) (hr.mono (by decide)) (pa_cons (pv 4) pa_nil)) (pa_cons (pe_callB call_len_seq (by rfl) T.b_len PySem.boot_len (pa_cons (pv 5) pa_nil)) pa_nil)))))))) (pv 5)))))), ?_⟩
    simp [tSeq, tIfS, tTest, tOp, rEq, rNe, rI0, rI, tVar, tC, tRet, tNext, L2.start, scal_ii, scal_nn, scal_in, scal_ni, scal_bb, line1, line2, line3, line7, tAnd, tOr, tNot, CDiv, CMul, tAsg, gName, tAndV, tOrV, tNotV, tCall, tCons, tNil, tCB, rU, tUn, tIf, tB, cx_K, cx_noxK, rIxL, rIxT, rCat]
    refine ⟨J, d, p, j, r, rfl, hJ, R, .inl hr', fun q x Rx og mx => ?_⟩
    obtain ⟨hh, hroot⟩ := hand_of hJ.ok hr' k4 og
    obtain ⟨y1, y2, y3, y4, y5, y6, y7, y8, y9, y10⟩ := R.ex
    obtain ⟨z1, z2, z3, z4, z5, z6, z7, z8, z9, z10⟩ := Rx.ex
    have tx := (hJ.ok.recs x mx).txt
    have fin : ∀ (ta : Addr) (b : Bytes), H ta = some (.lst (bv b)) → b.length ≤ 20000 → FfNeutral.numbers (told j r hm which) = (0 : Int) :: ((r.stamp : Nat) : Int) :: ((r.kind : Nat) : Int) :: ((r.state : Nat) : Int) :: ((hm : Nat) : Int) :: ((FhWork.whoOf x.stamp : Nat) : Int) :: ((b.length : Nat) : Int) :: FfNeutral.byteNums b →
        tLst (tCons (tC (.int 0)) (tCons (tFld K (tVar 1) "stamp") (tCons (tFld K (tVar 1) "kind") (tCons (tFld K (tVar 1) "state") (tCons (tVar 2) (tCons (tCall (spOfRec K fun s => ((FhWork.whoOf s : Nat) : Int)) [] E0 (tCons (tVar 4) tNil)) (tCons (tCB (fun xs H Q => ∃ p, xs = [.ref p] ∧ ∃ x, (SqL K H p x ∨ SqT K H p x) ∧ Q (.int (x.length : Nat)) H) (tCons (tVar 5) tNil)) tNil)))))))
          [some (.ref J), some (.ref p), some (.int (hm : Nat)), some (.int (which : Nat)), some (.ref q), some (.ref ta)] H (fun x_1 H1 => ∃ l, x_1 = .ref l ∧ ∃ x_2, V.ref ta = .ref x_2 ∧ ∃ x, H1 l = some (.lst x) ∧ ∃ x_3, H1 x_2 = some (.lst x_3) ∧ x.length + x_3.length ≤ sizeLine ∧ ∀ (p : Addr), H1 p = none → Q (.ref p) (upd H1 p (.lst (x ++ x_3)))) := by
      intro ta b hta hb en
      refine ⟨_, rfl, p, _, _, _, _, rfl, y6, T.c_Record, T.n_Record_stamp, recF_stamp _ _ _ _ _ _ _ _, ?_⟩
      refine ⟨_, rfl, p, _, _, _, _, rfl, y6, T.c_Record, T.n_Record_kind, recF_kind _ _ _ _ _ _ _ _, ?_⟩
      refine ⟨_, rfl, p, _, _, _, _, rfl, y6, T.c_Record, T.n_Record_state, recF_state _ _ _ _ _ _ _ _, ?_⟩
      refine ⟨_, rfl, _, rfl, q, x, rfl, Rx, ?_⟩
      refine ⟨_, rfl, ta, rfl, _, .inl (SqL.of hta), line7, fun l hl => ?_⟩
      rw [bv_len]
      refine ⟨l, rfl, ta, rfl, _, upd_same, _, same_upd hl _ _ hta, ?_, fun o ho => ?_⟩
      · rw [bv_len]
        exact Nat.le_trans (Nat.add_le_add_left hb 7) (by decide)
      · refine h _ _ ((same_upd hl).trans (same_upd ho)) ((same_upd hl).free ho) ?_
        rw [upd_same, en, ← bv_nums]
        rfl
    have en : ∀ b : Bytes, (match FhWork.root j r with
        | some y => Fh.rowText (if which = 0 then y.row else y.source)
        | none => []) = b → FfNeutral.numbers (told j r hm which) = (0 : Int) :: ((r.stamp : Nat) : Int) :: ((r.kind : Nat) : Int) :: ((r.state : Nat) : Int) :: ((hm : Nat) : Int) :: ((FhWork.whoOf x.stamp : Nat) : Int) :: ((b.length : Nat) : Int) :: FfNeutral.byteNums b := fun b e => by
      unfold told
      rw [e, hh]
      rfl
    by_cases c : ((which : Nat) : Int) = 1
    · rw [if_pos c]
      refine ⟨_, rfl, q, _, _, _, _, rfl, z6, T.c_Record, T.n_Record_source, recF_source _ _ _ _ _ _ _ _, ?_⟩
      refine fin z4 _ z9 tx.1 (en _ ?_)
      cases e : FhWork.root j r with
      | some y =>
        rw [e] at hroot
        simp only at hroot ⊢
        rw [hroot, if_neg (by omega)]
      | none =>
        rw [e] at hroot
        simp only at hroot ⊢
        rw [hroot.1, hroot.2.1]
        rfl
    · rw [if_neg c]
      refine ⟨_, rfl, q, _, _, _, _, rfl, z6, T.c_Record, T.n_Record_row, recF_row _ _ _ _ _ _ _ _, ?_⟩
      refine fin z5 _ z10 tx.2 (en _ ?_)
      cases e : FhWork.root j r with
      | some y =>
        rw [e] at hroot
        simp only at hroot ⊢
        rw [hroot, if_pos (by omega)]
      | none =>
        rw [e] at hroot
        simp only at hroot ⊢
        rw [hroot.1, hroot.2.2]
        rfl
/-- the heads of a segment, handed over -/
def spStands (K : PySem.W.Frag) : Sp := fun vs H Q _ => ∃ (L : Addr) (x : FhJournals.State) (j doc seg which : Nat),
  vs = [.ref L, .int (j : Nat), .int (doc : Nat), .int (seg : Nat), .int (which : Nat)] ∧ StAt K H L x ∧ Ans K H L (FhJournals.step x (.stands j doc seg which)) Q
theorem sc_stands : FnScope ["journals", "j", "doc", "seg", "which", "journal", "heads", "record"] ["journals", "j", "doc", "seg", "which"] (defScope s_stands) := ⟨rfl, rfl, rfl, by decide +kernel, rfl, by decide +kernel, by decide +kernel⟩
theorem ok_stands (T : Tx K mg) : OkF P w K mg base 6 "stands" ["journals", "j", "doc", "seg", "which"] (spStands K) := by
  refine okf (d := d_stands) 64 64 (N := ["journals", "j", "doc", "seg", "which", "journal", "heads", "record"]) T rfl rfl rfl rfl rfl sc_stands (fun _ _ _ _ _ _ us hl => match us, hl with | [_, _, _, _, _], _ => rfl) (fun vs H Q E h => ?_) (fun f cdv A outer s H vs Q E hr h => ?_)
  · obtain ⟨L, x, j, doc, seg, which, rfl, st, h⟩ := h
    rfl
  · obtain ⟨L, x, j, doc, seg, which, rfl, st, h⟩ := h
    have hu := hu_of hr
    refine ⟨_, (pss_cons (ps_if (pt_val (pe_callF (ok_name_is_beyond T) (hr.mono (by decide)) (pa_cons (pv 2) (pa_cons (pv 3) pa_nil)))) (pss_one (ps_ret (pe_lst (pa_cons (pe_un un_neg pe_int) pa_nil)))) pss_nil)
      (pss_cons (ps_if (PW.pt (pw_or (pt_val (pe_callF (ok_is_no_journal T) (hr.mono (by decide)) (pa_cons (pv 1) pa_nil))) (pw_or1 (pt_cmpR op_gt (pv 4) pe_int (nomark _))))) (pss_one (ps_ret (pe_lst (pa_cons (pe_un un_neg pe_int) pa_nil)))) pss_nil)
      (pss_cons (ps_set (i := 5) sc_stands.nd rfl (Or.inl rfl) (pe_ix ix_list (pv 0) (pv 1) (fun _ _ => rfl)))
      (pss_cons (ps_set (i := 6) sc_stands.nd rfl (Or.inl rfl) (pe_callF (ok_heads_of T) (hr.mono (by decide)) (pa_cons (pe_callF (ok_records_of T) (hr.mono (by decide)) (pa_cons (pv 5) (pa_cons (pe_tup (pa_cons (pv 2) (pa_cons (pv 3) pa_nil))) pa_nil))) pa_nil)))
      (pss_cons (ps_set (i := 7) sc_stands.nd rfl (Or.inl rfl) (pe_callF (ok_standing T) (hr.mono (by decide)) (pa_cons (pv 6) pa_nil)))
      (pss_cons (ps_if (pt_cmpR op_isN (pv 7) pe_non (nomark _)) (pss_one (ps_ret (pe_lst (pa_cons (pe_un un_neg pe_int) pa_nil)))) pss_nil)
      (pss_one (ps_ret (pe_callF (ok_tell_head T) (hr.mono (by decide)) (pa_cons (pv 5) (pa_cons (pv 7) (pa_cons (pe_callB call_len_seq (by rfl) T.b_len PySem.boot_len (pa_cons (pv 6) pa_nil)) (pa_cons (pv 4) pa_nil))))))))))))), ?_⟩
    have e0 : FhJournals.step x (.stands j doc seg which) = (x, if FhJournals.wideName doc seg = true then FhJournals.says (-6) else if 2 < j ∨ 1 < which then FhJournals.says (-1) else match FhWork.standing (x.at_ j) (doc, seg) with
      | none => FhJournals.says (-2)
      | some r => FhJournals.toldHead (x.at_ j) (doc, seg) r which) := rfl
    rw [e0] at h
    clear e0
    simp [tSeq, tIfS, tTest, tOp, rEq, rNe, rI0, rI, tVar, tC, tRet, tNext, L2.start, scal_ii, scal_nn, scal_in, scal_ni, scal_bb, line1, line2, line3, line7, tAnd, tOr, tNot, CDiv, CMul, tAsg, gName, tAndV, tOrV, tNotV, tCall, tCons, tNil, tCB, rU, tUn, tIf, tB, cx_K, cx_noxK, rIxL, rIxT, spI1, spI2, tLst]
    refine ⟨_, _, ⟨rfl, rfl⟩, ?_⟩
    by_cases c2 : (15 : Int) < (doc : Nat) ∨ (65535 : Int) < (seg : Nat)
    · rw [if_pos c2]
      rw [if_pos (by rw [wideName_is]; simp only [Bool.or_eq_true, decide_eq_true_eq]; exact c2)] at h
      exact h.no st
    rw [if_neg c2]
    rw [if_neg (by rw [wideName_is]; simp only [Bool.or_eq_true, decide_eq_true_eq]; exact c2)] at h
    by_cases c1 : (2 : Int) < (j : Nat)
    · rw [if_pos c1]
      rw [if_pos (.inl (by omega))] at h
      exact h.no st
    rw [if_neg c1]
    by_cases c5 : (1 : Int) < (which : Nat)
    · rw [if_pos c5]
      rw [if_pos (.inr (by omega))] at h
      exact h.no st
    rw [if_neg c5]
    rw [if_neg (by omega)] at h
    obtain ⟨J, d, vs, c3, c4, hJ, put⟩ := st.get (i := j) (by omega)
    refine ⟨_, SqL.of c3, _, atI_nat c4, ?_⟩
    refine ⟨_, rfl, _, rfl, line2, fun nm hnm => ?_⟩
    have sn := same_upd (o := .tup [.int (doc : Nat), .int (seg : Nat)]) hnm
    refine ⟨J, d, nm, x.at_ j, (doc, seg), rfl, hJ.same sn, upd_same, fun H7 l7 w7 s7 hl7 al7 => ?_⟩
    refine ⟨l7, w7, _, rfl, SqL.of hl7, al7, ?_, ?_, fun H8 l8 w8 s8 hl8 al8 => ?_⟩
    · exact Nat.le_trans (List.length_filter_le _ _) hJ.ok.few
    · exact fun r hr => (hJ.ok.recs r (List.mem_filter.mp hr).1).ov
    have sB := (sn.trans s7).trans s8
    have hI : JIn K H8 L x j J d := JIn.same sB ⟨hJ, put, st⟩
    have h := h.up sB
    clear hJ put st sB sn s7 s8 hl7 al7 c3
    rw [← heads_seg hI.at_.ok] at al8
    refine ⟨l8, w8, _, rfl, SqL.of hl8, al8, fun v hv => ?_⟩
    have es : standM (FhWork.heads (x.at_ j) (doc, seg)) = FhWork.standing (x.at_ j) (doc, seg) := rfl
    rw [es] at hv
    cases cst : FhWork.standing (x.at_ j) (doc, seg) with
    | none =>
      rw [cst] at hv h
      obtain rfl := hv
      dsimp only
      rw [if_pos rfl]
      exact h.no hI.all
    | some hr =>
      rw [cst] at hv h
      obtain ⟨ph, rfl, Rh⟩ := hv
      dsimp only
      rw [if_neg (by intro z; cases z)]
      obtain ⟨mh, mj, kd⟩ := standing_mem hI.at_.ok cst
      refine ⟨l8, rfl, w8, .inl (SqL.of hl8), J, d, ph, x.at_ j, hr, _, which, rfl, hI.at_, Rh, mj, by omega, by omega, fun H' q s nq hq => ?_⟩
      rw [al8.len] at hq
      exact h.same hI.all s nq hq
def spHead (K : PySem.W.Frag) : Sp := fun vs H Q _ => ∃ (L : Addr) (x : FhJournals.State) (j doc seg k which : Nat),
  vs = [.ref L, .int (j : Nat), .int (doc : Nat), .int (seg : Nat), .int (k : Nat), .int (which : Nat)] ∧ StAt K H L x ∧ Ans K H L (FhJournals.step x (.head j doc seg k which)) Q
theorem sc_head : FnScope ["journals", "j", "doc", "seg", "k", "which", "journal", "heads"] ["journals", "j", "doc", "seg", "k", "which"] (defScope s_head) := ⟨rfl, rfl, rfl, by decide +kernel, rfl, by decide +kernel, by decide +kernel⟩
theorem ok_head (T : Tx K mg) : OkF P w K mg base 6 "head" ["journals", "j", "doc", "seg", "k", "which"] (spHead K) := by
  refine okf (d := d_head) 65 65 (N := ["journals", "j", "doc", "seg", "k", "which", "journal", "heads"]) T rfl rfl rfl rfl rfl sc_head (fun _ _ _ _ _ _ us hl => match us, hl with | [_, _, _, _, _, _], _ => rfl) (fun vs H Q E h => ?_) (fun f cdv A outer s H vs Q E hr h => ?_)
  · obtain ⟨L, x, j, doc, seg, k, which, rfl, st, h⟩ := h
    rfl
  · obtain ⟨L, x, j, doc, seg, k, which, rfl, st, h⟩ := h
    have hu := hu_of hr
    refine ⟨_, (pss_cons (ps_if (pt_val (pe_callF (ok_name_is_beyond T) (hr.mono (by decide)) (pa_cons (pv 2) (pa_cons (pv 3) pa_nil)))) (pss_one (ps_ret (pe_lst (pa_cons (pe_un un_neg pe_int) pa_nil)))) pss_nil)
      (pss_cons (ps_if (PW.pt (pw_or (pt_val (pe_callF (ok_is_no_journal T) (hr.mono (by decide)) (pa_cons (pv 1) pa_nil))) (pw_or1 (pt_cmpR op_gt (pv 5) pe_int (nomark _))))) (pss_one (ps_ret (pe_lst (pa_cons (pe_un un_neg pe_int) pa_nil)))) pss_nil)
      (pss_cons (ps_set (i := 6) sc_head.nd rfl (Or.inl rfl) (pe_ix ix_list (pv 0) (pv 1) (fun _ _ => rfl)))
      (pss_cons (ps_set (i := 7) sc_head.nd rfl (Or.inl rfl) (pe_callF (ok_heads_of T) (hr.mono (by decide)) (pa_cons (pe_callF (ok_records_of T) (hr.mono (by decide)) (pa_cons (pv 6) (pa_cons (pe_tup (pa_cons (pv 2) (pa_cons (pv 3) pa_nil))) pa_nil))) pa_nil)))
      (pss_cons (ps_if (pt_cmpR op_ge (pv 4) (pe_callB call_len_seq (by rfl) T.b_len PySem.boot_len (pa_cons (pv 7) pa_nil)) (nomark _)) (pss_one (ps_ret (pe_lst (pa_cons (pe_un un_neg pe_int) pa_nil)))) pss_nil)
      (pss_one (ps_ret (pe_callF (ok_tell_head T) (hr.mono (by decide)) (pa_cons (pv 6) (pa_cons (pe_ix ix_list (pv 7) (pv 4) (fun _ _ => rfl)) (pa_cons (pe_callB call_len_seq (by rfl) T.b_len PySem.boot_len (pa_cons (pv 7) pa_nil)) (pa_cons (pv 5) pa_nil)))))))))))), ?_⟩
    have e0 : FhJournals.step x (.head j doc seg k which) = (x, if FhJournals.wideName doc seg = true then FhJournals.says (-6) else if 2 < j ∨ 1 < which then FhJournals.says (-1) else match (FhWork.heads (x.at_ j) (doc, seg))[k]? with
      | none => FhJournals.says (-2)
      | some r => FhJournals.toldHead (x.at_ j) (doc, seg) r which) := rfl
    rw [e0] at h
    clear e0
    simp [tSeq, tIfS, tTest, tOp, rEq, rNe, rI0, rI, tVar, tC, tRet, tNext, L2.start, scal_ii, scal_nn, scal_in, scal_ni, scal_bb, line1, line2, line3, line7, tAnd, tOr, tNot, CDiv, CMul, tAsg, gName, tAndV, tOrV, tNotV, tCall, tCons, tNil, tCB, rU, tUn, tIf, tB, cx_K, cx_noxK, rIxL, rIxT, spI1, spI2, tLst]
    refine ⟨_, _, ⟨rfl, rfl⟩, ?_⟩
    by_cases c2 : (15 : Int) < (doc : Nat) ∨ (65535 : Int) < (seg : Nat)
    · rw [if_pos c2]
      rw [if_pos (by rw [wideName_is]; simp only [Bool.or_eq_true, decide_eq_true_eq]; exact c2)] at h
      exact h.no st
    rw [if_neg c2]
    rw [if_neg (by rw [wideName_is]; simp only [Bool.or_eq_true, decide_eq_true_eq]; exact c2)] at h
    by_cases c1 : (2 : Int) < (j : Nat)
    · rw [if_pos c1]
      rw [if_pos (.inl (by omega))] at h
      exact h.no st
    rw [if_neg c1]
    by_cases c5 : (1 : Int) < (which : Nat)
    · rw [if_pos c5]
      rw [if_pos (.inr (by omega))] at h
      exact h.no st
    rw [if_neg c5]
    rw [if_neg (by omega)] at h
    obtain ⟨J, d, vs, c3, c4, hJ, put⟩ := st.get (i := j) (by omega)
    refine ⟨_, SqL.of c3, _, atI_nat c4, ?_⟩
    refine ⟨_, rfl, _, rfl, line2, fun nm hnm => ?_⟩
    have sn := same_upd (o := .tup [.int (doc : Nat), .int (seg : Nat)]) hnm
    refine ⟨J, d, nm, x.at_ j, (doc, seg), rfl, hJ.same sn, upd_same, fun H7 l7 w7 s7 hl7 al7 => ?_⟩
    refine ⟨l7, w7, _, rfl, SqL.of hl7, al7, ?_, ?_, fun H8 l8 w8 s8 hl8 al8 => ?_⟩
    · exact Nat.le_trans (List.length_filter_le _ _) hJ.ok.few
    · exact fun r hr => (hJ.ok.recs r (List.mem_filter.mp hr).1).ov
    have sB := (sn.trans s7).trans s8
    have hI : JIn K H8 L x j J d := JIn.same sB ⟨hJ, put, st⟩
    have h := h.up sB
    clear hJ put st sB sn s7 s8 hl7 al7 c3
    rw [← heads_seg hI.at_.ok] at al8
    refine ⟨l8, rfl, w8, .inl (SqL.of hl8), ?_⟩
    by_cases ck : w8.length ≤ k
    · rw [if_pos ck]
      rw [show (FhWork.heads (x.at_ j) (doc, seg))[k]? = none from List.getElem?_eq_none (by rw [← al8.len]; exact ck)] at h
      exact h.no hI.all
    · rw [if_neg ck]
      have hk : w8[k]? = some (w8[k]'(by omega)) := List.getElem?_eq_getElem (by omega)
      obtain ⟨r, hr, R⟩ := al8.at hk
      rw [hr] at h
      generalize w8[k]'(by omega) = v at *
      obtain ⟨ph, rfl, Rh⟩ := R
      have mh := List.mem_of_getElem? hr
      have mw := List.mem_filter.mp (List.mem_filter.mp mh).1
      have k4 : r.kind ≠ 4 := by
        have := mw.2
        rw [Bool.and_eq_true, works_kind (hI.at_.ok.recs r mw.1)] at this
        simpa using this.1
      refine ⟨l8, rfl, w8, SqL.of hl8, _, atI_nat hk, l8, rfl, w8, .inl (SqL.of hl8), J, d, ph, x.at_ j, r, _, which, rfl, hI.at_, Rh, mw.1, k4, by omega, fun H' q s nq hq => ?_⟩
      rw [al8.len] at hq
      exact h.same hI.all s nq hq
def spSaid (K : PySem.W.Frag) : Sp := fun vs H Q _ => ∃ (L : Addr) (x : FhJournals.State) (j doc seg k : Nat),
  vs = [.ref L, .int (j : Nat), .int (doc : Nat), .int (seg : Nat), .int (k : Nat)] ∧ StAt K H L x ∧ Ans K H L (FhJournals.step x (.said j doc seg k)) Q
theorem sc_said : FnScope ["journals", "j", "doc", "seg", "k", "remarks"] ["journals", "j", "doc", "seg", "k"] (defScope s_said) := ⟨rfl, rfl, rfl, by decide +kernel, rfl, by decide +kernel, by decide +kernel⟩
theorem ok_said (T : Tx K mg) : OkF P w K mg base 6 "said" ["journals", "j", "doc", "seg", "k"] (spSaid K) := by
  refine okf (d := d_said) 67 67 (N := ["journals", "j", "doc", "seg", "k", "remarks"]) T rfl rfl rfl rfl rfl sc_said (fun _ _ _ _ _ _ us hl => match us, hl with | [_, _, _, _, _], _ => rfl) (fun vs H Q E h => ?_) (fun f cdv A outer s H vs Q E hr h => ?_)
  · obtain ⟨L, x, j, doc, seg, k, rfl, st, h⟩ := h
    rfl
  · obtain ⟨L, x, j, doc, seg, k, rfl, st, h⟩ := h
    have hu := hu_of hr
    refine ⟨_, (pss_cons (ps_if (pt_val (pe_callF (ok_name_is_beyond T) (hr.mono (by decide)) (pa_cons (pv 2) (pa_cons (pv 3) pa_nil)))) (pss_one (ps_ret (pe_lst (pa_cons (pe_un un_neg pe_int) pa_nil)))) pss_nil)
      (pss_cons (ps_if (pt_val (pe_callF (ok_is_no_journal T) (hr.mono (by decide)) (pa_cons (pv 1) pa_nil))) (pss_one (ps_ret (pe_lst (pa_cons (pe_un un_neg pe_int) pa_nil)))) pss_nil)
      (pss_cons (ps_set (i := 5) sc_said.nd rfl (Or.inl rfl) (pe_callF (ok_remarks_of T) (hr.mono (by decide)) (pa_cons (pe_callF (ok_records_of T) (hr.mono (by decide)) (pa_cons (pe_ix ix_list (pv 0) (pv 1) (fun _ _ => rfl)) (pa_cons (pe_tup (pa_cons (pv 2) (pa_cons (pv 3) pa_nil))) pa_nil))) pa_nil)))
      (pss_cons (ps_if (pt_cmpR op_ge (pv 4) (pe_callB call_len_seq (by rfl) T.b_len PySem.boot_len (pa_cons (pv 5) pa_nil)) (nomark _)) (pss_one (ps_ret (pe_lst (pa_cons (pe_un un_neg pe_int) pa_nil)))) pss_nil)
      (pss_one (ps_ret (pe_op op_cat (pe_lst (pa_cons pe_int (pa_cons (pe_fld (pe_ix ix_list (pv 5) (pv 4) (fun _ _ => rfl)) rfl) (pa_cons (pe_callB call_len_seq (by rfl) T.b_len PySem.boot_len (pa_cons (pe_fld (pe_ix ix_list (pv 5) (pv 4) (fun _ _ => rfl)) rfl) pa_nil)) pa_nil)))) (pe_fld (pe_ix ix_list (pv 5) (pv 4) (fun _ _ => rfl)) rfl)))))))), ?_⟩
    have e0 : FhJournals.step x (.said j doc seg k) = (x, if FhJournals.wideName doc seg = true then FhJournals.says (-6) else if 2 < j then FhJournals.says (-1) else match (FhWork.remarks (x.at_ j) (doc, seg))[k]? with
      | none => FhJournals.says (-2)
      | some r => ⟨0, [r.stamp], none, some (Fh.rowText r.row)⟩) := rfl
    rw [e0] at h
    clear e0
    simp [tSeq, tIfS, tTest, tOp, rEq, rNe, rI0, rI, tVar, tC, tRet, tNext, L2.start, scal_ii, scal_nn, scal_in, scal_ni, scal_bb, line1, line2, line3, line7, tAnd, tOr, tNot, CDiv, CMul, tAsg, gName, tAndV, tOrV, tNotV, tCall, tCons, tNil, tCB, rU, tUn, tIf, tB, cx_K, cx_noxK, rIxL, rIxT, spI1, spI2, tLst, rCat]
    refine ⟨_, _, ⟨rfl, rfl⟩, ?_⟩
    by_cases c2 : (15 : Int) < (doc : Nat) ∨ (65535 : Int) < (seg : Nat)
    · rw [if_pos c2]
      rw [if_pos (by rw [wideName_is]; simp only [Bool.or_eq_true, decide_eq_true_eq]; exact c2)] at h
      exact h.no st
    rw [if_neg c2]
    rw [if_neg (by rw [wideName_is]; simp only [Bool.or_eq_true, decide_eq_true_eq]; exact c2)] at h
    by_cases c1 : (2 : Int) < (j : Nat)
    · rw [if_pos c1]
      rw [if_pos (by omega)] at h
      exact h.no st
    rw [if_neg c1]
    rw [if_neg (by omega)] at h
    obtain ⟨J, d, vs, c3, c4, hJ, put⟩ := st.get (i := j) (by omega)
    refine ⟨_, SqL.of c3, _, atI_nat c4, ?_⟩
    refine ⟨_, rfl, _, rfl, line2, fun nm hnm => ?_⟩
    have sn := same_upd (o := .tup [.int (doc : Nat), .int (seg : Nat)]) hnm
    refine ⟨J, d, nm, x.at_ j, (doc, seg), rfl, hJ.same sn, upd_same, fun H7 l7 w7 s7 hl7 al7 => ?_⟩
    refine ⟨l7, w7, _, rfl, SqL.of hl7, al7, ?_, ?_, fun H8 l8 w8 s8 hl8 al8 => ?_⟩
    · exact Nat.le_trans (List.length_filter_le _ _) hJ.ok.few
    · exact fun r hr => (hJ.ok.recs r (List.mem_filter.mp hr).1).ov
    have sB := (sn.trans s7).trans s8
    have hI : JIn K H8 L x j J d := JIn.same sB ⟨hJ, put, st⟩
    have h := h.up sB
    clear hJ put st sB sn s7 s8 hl7 al7 c3
    rw [← rems_seg] at al8
    refine ⟨l8, rfl, w8, .inl (SqL.of hl8), ?_⟩
    by_cases ck : w8.length ≤ k
    · rw [if_pos ck]
      rw [show (FhWork.remarks (x.at_ j) (doc, seg))[k]? = none from List.getElem?_eq_none (by rw [← al8.len]; exact ck)] at h
      exact h.no hI.all
    · rw [if_neg ck]
      have hk : w8[k]? = some (w8[k]'(by omega)) := List.getElem?_eq_getElem (by omega)
      obtain ⟨r, hr, R⟩ := al8.at hk
      rw [hr] at h
      generalize w8[k]'(by omega) = v at *
      obtain ⟨ph, rfl, Rh⟩ := R
      have mj := (List.mem_filter.mp (List.mem_of_getElem? hr)).1
      obtain ⟨y1, y2, y3, y4, y5, y6, y7, y8, y9, y10⟩ := Rh.ex
      refine ⟨_, rfl, _, rfl, l8, w8, _, _, rfl, rfl, SqL.of hl8, atI_nat hk, ph, _, _, _, _, rfl, y6, T.c_Record, T.n_Record_stamp, recF_stamp _ _ _ _ _ _ _ _, ?_⟩
      refine ⟨_, rfl, _, rfl, l8, w8, _, _, rfl, rfl, SqL.of hl8, atI_nat hk, ph, _, _, _, _, rfl, y6, T.c_Record, T.n_Record_row, recF_row _ _ _ _ _ _ _ _, y5, rfl, _, .inl (SqL.of y10), fun q hq => ?_⟩
      have s1 := same_upd (o := .lst [.int 0, .int (r.stamp : Nat), .int ((bv (Fh.rowText r.row)).length : Nat)]) hq
      refine ⟨_, rfl, _, rfl, l8, w8, _, _, rfl, rfl, s1.seq (SqL.of hl8), atI_nat hk, ph, _, _, _, _, rfl, s1 _ _ y6, T.c_Record, T.n_Record_row, recF_row _ _ _ _ _ _ _ _, y5, rfl, _, upd_same, _, s1 _ _ y10, ?_, fun o ho => ?_⟩
      · rw [bv_len]
        exact Nat.le_trans (Nat.add_le_add_left (hI.at_.ok.recs r mj).txt.2 3) (by decide)
      · refine h.same hI.all (s1.trans (same_upd ho)) (s1.free ho) ?_
        rw [upd_same, bv_len, ← bv_nums]
        rfl
end
end Fj
set_option Elab.async false
set_option linter.all false
set_option maxRecDepth 100000
set_option maxHeartbeats 4000000
namespace Fj
open PySem PySem.Spec PyProof.Rows L2
open Fh (Bytes Piece)
open FhWork (Rec Journal Name)
def soM (rs : List Rec) (what : Nat) : Bool := if what = 1 then decide (2 ≤ (headsM rs).length) else if what = 2 then (standM (headsM rs)).isSome else if what = 3 then !(remsM rs).isEmpty else true
def ni (n : Name) : Int × Int := (((n.1 : Nat) : Int), ((n.2 : Nat) : Int))
def nj (q : Int × Int) : Name := (q.1.toNat, q.2.toNat)
theorem nj_ni (n : Name) : nj (ni n) = n := rfl
theorem lex_ni (a b : Name) : SrtO.lexB (ni a) (ni b) = FhWork.nameBefore a b := by
  unfold SrtO.lexB FhWork.nameBefore ni
  rw [Bool.eq_iff_iff]
  simp only
  split
  · rename_i c
    simp
    omega
  · rename_i c
    simp
    omega
/-- the sorted keys are the names in order -/
theorem sorted_names {K : PySem.W.Frag} {H : Hp} {d : Addr} {ns : List (Name × Addr)} {j : Journal} (S : SegD K H d ns j) {zs : List V} (perm : (zs.map (pairAt H)).Perm (ns.map fun e => ni e.1)) (srt : (zs.map (pairAt H)).Pairwise (fun a b => SrtO.lexB b a = false)) :
    zs.map (pairAt H) = (FhWork.namesOf j).map ni := by
  have e1 : zs.map (pairAt H) = ((zs.map (pairAt H)).map nj).map ni := by
    rw [List.map_map]
    conv => lhs; rw [← List.map_id (zs.map (pairAt H))]
    refine List.map_congr_left fun q hq => ?_
    obtain ⟨e, _, he⟩ := List.mem_map.mp (perm.mem_iff.mp hq)
    rw [← he]
    rfl
  have p2 : ((zs.map (pairAt H)).map nj).Perm (ns.map (·.1)) := by
    have z := perm.map nj
    rw [List.map_map (l := ns)] at z
    exact z
  have e2 : (zs.map (pairAt H)).map nj = FhWork.namesOf j := by
    refine rise_eq (names_rise j) (p2.nodup_iff.mpr S.nd) ?_ fun n => ?_
    · rw [e1, List.pairwise_map] at srt
      exact srt.imp fun {a b} z => by rw [lex_ni] at z; exact z
    · rw [p2.mem_iff, names_mem]
      exact ⟨S.back n, fun ⟨r, h1, h2⟩ => by rw [← h2]; exact S.mem r h1⟩
  rw [e1, e2]
def NoHit (j : Journal) (what : Nat) (n : Name) (l : List Name) : Prop := ∀ m ∈ l, (!FhWork.nameBefore m n && FhWork.isSo j what m) = false
theorem NoHit.snoc {j : Journal} {what : Nat} {n : Name} {l : List Name} {i : Nat} {m : Name} (h : NoHit j what n (l.take i)) (hm : l[i]? = some m) (no : (!FhWork.nameBefore m n && FhWork.isSo j what m) = false) : NoHit j what n (l.take (i + 1)) := fun x hx => by
  rw [take_snoc hm] at hx
  rcases List.mem_append.mp hx with z | z
  · exact h x z
  · rw [List.mem_singleton] at z
    rw [z]
    exact no
theorem find_hit {α : Type} {f : α → Bool} {i : Nat} {m : α} : ∀ {l : List α}, l[i]? = some m → (∀ x ∈ l.take i, f x = false) → f m = true → l.find? f = some m := by
  induction i with
  | zero =>
    intro l h1 _ h3
    cases l with
    | nil => cases h1
    | cons y l =>
      simp at h1
      subst h1
      rw [List.find?_cons_of_pos h3]
  | succ i ih =>
    intro l h1 h2 h3
    cases l with
    | nil => cases h1
    | cons y l =>
      rw [List.find?_cons_of_neg (by rw [h2 y (by simp)]; decide)]
      exact ih (by simpa using h1) (fun x hx => h2 x (by simp [hx])) h3
section
variable {P : Program} {w : World} {K : PySem.W.Frag} {mg : Str → Option Value} {base : Heap}
def spIsSo (K : PySem.W.Frag) : Sp := fun vs H Q _ => ∃ (l : Addr) (ws : List V) (rs : List Rec) (what : Nat), vs = [.ref l, .int (what : Nat)] ∧ SqL K H l ws ∧ All2 (RecV K H) ws rs ∧ rs.length ≤ 256 ∧ (∀ r ∈ rs, r.over.length ≤ 16) ∧ ∀ H', Same H H' → Q (.bl (soM rs what)) H'
theorem sc_is_so : FnScope ["records", "what"] ["records", "what"] (defScope s_is_so) := ⟨rfl, rfl, rfl, by decide +kernel, rfl, by decide +kernel, by decide +kernel⟩
theorem ok_is_so (T : Tx K mg) : OkF P w K mg base 3 "is_so" ["records", "what"] (spIsSo K) := by
  refine okf (d := d_is_so) 69 69 (N := ["records", "what"]) T rfl rfl rfl rfl rfl sc_is_so (fun _ _ _ _ _ _ us hl => match us, hl with | [_, _], _ => rfl) (fun vs H Q E h => ?_) (fun f cdv A outer s H vs Q E hr h => ?_)
  · obtain ⟨l, ws, rs, what, rfl, hS, al, few, ov, h⟩ := h
    rfl
  · obtain ⟨l, ws, rs, what, rfl, hS, al, few, ov, h⟩ := h
    have hu := hu_of hr
    refine ⟨_, (pss_cons (ps_if (pt_cmpR op_eq (pv 1) pe_int (nomark _)) (pss_one (ps_ret (pe_callF (ok_in_conflict T) (hr.mono (by decide)) (pa_cons (pe_callF (ok_heads_of T) (hr.mono (by decide)) (pa_cons (pv 0) pa_nil)) pa_nil)))) pss_nil)
      (pss_cons (ps_if (pt_cmpR op_eq (pv 1) pe_int (nomark _)) (pss_one (ps_ret (pe_cmpR op_notN (pe_callF (ok_standing T) (hr.mono (by decide)) (pa_cons (pe_callF (ok_heads_of T) (hr.mono (by decide)) (pa_cons (pv 0) pa_nil)) pa_nil)) pe_non (nomark _)))) pss_nil)
      (pss_cons (ps_if (pt_cmpR op_eq (pv 1) pe_int (nomark _)) (pss_one (ps_ret (pe_cmpR (op_neNil hr.units0) (pe_callF (ok_remarks_of T) (hr.mono (by decide)) (pa_cons (pv 0) pa_nil)) (pe_lst pa_nil) (nomark _)))) pss_nil)
      (pss_one (ps_ret pe_bl))))), ?_⟩
    simp [tSeq, tIfS, tTest, tOp, rEq, rNe, rI0, rI, tVar, tC, tRet, tNext, L2.start, scal_ii, scal_nn, scal_in, scal_ni, scal_bb, line1, line2, line3, line7, tAnd, tOr, tNot, CDiv, CMul, tAsg, gName, tAndV, tOrV, tNotV, tCall, tCons, tNil, tCB, rU, tUn, tIf, tB, cx_K, cx_noxK, rIxL, rIxT, tLst, rNeNil]
    by_cases c1 : ((what : Nat) : Int) = 1
    · rw [if_pos c1]
      refine ⟨l, ws, rs, rfl, hS, al, few, ov, fun H1 p us s1 hp al1 => ⟨p, rfl, us, SqL.of hp, ?_⟩⟩
      have z := h _ s1
      rw [show soM rs what = decide (2 ≤ us.length) by unfold soM; rw [if_pos (by omega), al1.len]] at z
      exact z
    rw [if_neg c1]
    by_cases c2 : ((what : Nat) : Int) = 2
    · rw [if_pos c2]
      refine ⟨l, ws, rs, rfl, hS, al, few, ov, fun H1 p us s1 hp al1 => ⟨p, us, _, rfl, SqL.of hp, al1, fun v hv => ?_⟩⟩
      have z := h _ s1
      rw [show soM rs what = !decide (v = .non) by
        unfold soM
        rw [if_neg (by omega), if_pos (by omega)]
        cases q : standM (headsM rs) with
        | none =>
          rw [q] at hv
          obtain rfl := hv
          rfl
        | some r =>
          rw [q] at hv
          obtain ⟨p, rfl, _⟩ := hv
          rfl] at z
      exact z
    rw [if_neg c2]
    by_cases c3 : ((what : Nat) : Int) = 3
    · rw [if_pos c3]
      refine ⟨l, ws, rs, rfl, hS, al, few, ov, fun H1 p us s1 hp al1 q hq => ?_⟩
      have s2 := same_upd (o := .lst []) hq
      refine ⟨p, rfl, us, s2.seq (SqL.of hp), SqL.of upd_same, ?_⟩
      have z := h _ (s1.trans s2)
      rw [show soM rs what = !decide (us = []) by
        unfold soM
        rw [if_neg (by omega), if_neg (by omega), if_pos (by omega)]
        have := al1.len
        cases us with
        | nil => cases e : remsM rs with
          | nil => rfl
          | cons _ _ => rw [e] at this; cases this
        | cons _ _ => cases e : remsM rs with
          | nil => rw [e] at this; cases this
          | cons _ _ => rfl] at z
      exact z
    rw [if_neg c3]
    have z := h _ (Same.refl H)
    rw [show soM rs what = true by unfold soM; rw [if_neg (by omega), if_neg (by omega), if_neg (by omega)]] at z
    exact z
def spNext (K : PySem.W.Frag) : Sp := fun vs H Q _ => ∃ (L : Addr) (x : FhJournals.State) (j what doc seg : Nat),
  vs = [.ref L, .int (j : Nat), .int (what : Nat), .int (doc : Nat), .int (seg : Nat)] ∧ StAt K H L x ∧ Ans K H L (FhJournals.step x (.next j what doc seg)) Q
theorem sc_next_segment : FnScope ["journals", "j", "what", "doc", "seg", "segments", "name"] ["journals", "j", "what", "doc", "seg"] (defScope s_next_segment) := ⟨rfl, rfl, rfl, by decide +kernel, rfl, by decide +kernel, by decide +kernel⟩
theorem ok_next_segment (T : Tx K mg) : OkF P w K mg base 6 "next_segment" ["journals", "j", "what", "doc", "seg"] (spNext K) := by
  refine okf (d := d_next_segment) 68 68 (N := ["journals", "j", "what", "doc", "seg", "segments", "name"]) T rfl rfl rfl rfl rfl sc_next_segment (fun _ _ _ _ _ _ us hl => match us, hl with | [_, _, _, _, _], _ => rfl) (fun vs H Q E h => ?_) (fun f cdv A outer s H vs Q E hr h => ?_)
  · obtain ⟨L, x, j, what, doc, seg, rfl, st, h⟩ := h
    rfl
  · obtain ⟨L, x, j, what, doc, seg, rfl, st, h⟩ := h
    have hu := hu_of hr
    refine ⟨_, (pss_cons (ps_if (pt_val (pe_callF (ok_name_is_beyond T) (hr.mono (by decide)) (pa_cons (pv 3) (pa_cons (pv 4) pa_nil)))) (pss_one (ps_ret (pe_lst (pa_cons (pe_un un_neg pe_int) pa_nil)))) pss_nil)
      (pss_cons (ps_if (PW.pt (pw_or (pt_val (pe_callF (ok_is_no_journal T) (hr.mono (by decide)) (pa_cons (pv 1) pa_nil))) (pw_or1 (pt_cmpR op_gt (pv 2) pe_int (nomark _))))) (pss_one (ps_ret (pe_lst (pa_cons (pe_un un_neg pe_int) pa_nil)))) pss_nil)
      (pss_cons (ps_set (i := 5) sc_next_segment.nd rfl (Or.inl rfl) (pe_callF (ok_records_by_segment T) (hr.mono (by decide)) (pa_cons (pe_ix ix_list (pv 0) (pv 1) (fun _ _ => rfl)) pa_nil)))
      (pss_cons (ps_for PassesOwn.never rfl (pi_list (pe_callB (cr_sortT rfl) (by rfl) T.b_sorted (by decide +kernel) (pa_cons (pv 5) pa_nil))) (pg_name (i := 6) sc_next_segment.nd rfl (Or.inl rfl))
        (pss_one (ps_if (PW.pt (pw_and (pt_cmpR (op_geP hr.units0) (pv 6) (pe_tup (pa_cons (pv 3) (pa_cons (pv 4) pa_nil))) (nomark _)) (pw_and1 (pt_val (pe_callF (ok_is_so T) (hr.mono (by decide)) (pa_cons (pe_dget hu (pv 5) (pv 6) (fun _ _ => rfl)) (pa_cons (pv 2) pa_nil))))))) (pss_one (ps_ret (pe_lst (pa_cons pe_int (pa_cons (pe_ix ix_tup (pv 6) pe_int (fun _ _ => rfl)) (pa_cons (pe_ix ix_tup (pv 6) pe_int (fun _ _ => rfl)) pa_nil)))))) pss_nil)))
      (pss_one (ps_ret (pe_lst (pa_cons (pe_un un_neg pe_int) pa_nil)))))))), ?_⟩
    have e0 : FhJournals.step x (.next j what doc seg) = (x, if FhJournals.wideName doc seg = true then FhJournals.says (-6) else if 2 < j ∨ 3 < what then FhJournals.says (-1) else match FhWork.nextOf (x.at_ j) what (doc, seg) with
      | none => FhJournals.says (-2)
      | some n => ⟨0, [n.1, n.2], none, none⟩) := rfl
    rw [e0] at h
    clear e0
    simp [tSeq, tIfS, tTest, tOp, rEq, rNe, rI0, rI, tVar, tC, tRet, tNext, L2.start, scal_ii, scal_nn, scal_in, scal_ni, scal_bb, line1, line2, line3, line7, tAnd, tOr, tNot, CDiv, CMul, tAsg, gName, tAndV, tOrV, tNotV, tCall, tCons, tNil, tCB, rU, tUn, tIf, tB, cx_K, cx_noxK, rIxL, rIxT, spI1, spI2, tLst]
    refine ⟨_, _, ⟨rfl, rfl⟩, ?_⟩
    by_cases c2 : (15 : Int) < (doc : Nat) ∨ (65535 : Int) < (seg : Nat)
    · rw [if_pos c2]
      rw [if_pos (by rw [wideName_is]; simp only [Bool.or_eq_true, decide_eq_true_eq]; exact c2)] at h
      exact h.no st
    rw [if_neg c2]
    rw [if_neg (by rw [wideName_is]; simp only [Bool.or_eq_true, decide_eq_true_eq]; exact c2)] at h
    by_cases c1 : (2 : Int) < (j : Nat)
    · rw [if_pos c1]
      rw [if_pos (.inl (by omega))] at h
      exact h.no st
    rw [if_neg c1]
    by_cases c5 : (3 : Int) < (what : Nat)
    · rw [if_pos c5]
      rw [if_pos (.inr (by omega))] at h
      exact h.no st
    rw [if_neg c5]
    rw [if_neg (by omega)] at h
    obtain ⟨J, d, vs, c3, c4, hJ, put⟩ := st.get (i := j) (by omega)
    refine ⟨_, SqL.of c3, _, atI_nat c4, ?_⟩
    refine ⟨J, d, x.at_ j, rfl, hJ, fun H1 e ns s1 S => ?_⟩
    have hI : JIn K H1 L x j J d := JIn.same s1 ⟨hJ, put, st⟩
    have h := h.up s1
    clear put st c3 s1 hJ
    refine ⟨_, rfl, e, _, ns.map (fun e => ni e.1), rfl, .inl S.dc, ?_, fun zs p hz perm srt hp => ?_⟩
    · unfold sents
      rw [List.map_map, List.map_map]
      rfl
    have en := sorted_names S perm srt
    have s2 := same_upd (o := .lst zs) hp
    have hpl : upd H1 p (.lst zs) p = some (.lst zs) := upd_same
    generalize upd H1 p (.lst zs) = H2 at *
    have few : (FhWork.namesOf (x.at_ j)).length = zs.length := by
      have z := congrArg List.length en
      rw [List.length_map, List.length_map] at z
      exact z.symm
    refine ⟨p, rfl, ⟨_, SqL.of hpl⟩, for_list (K := K) (a := p) (xs := zs) (fun i σ H3 => ∃ u, σ = [some (.ref L), some (.int (j : Nat)), some (.int (what : Nat)), some (.int (doc : Nat)), some (.int (seg : Nat)), some (.ref e), u] ∧ Same H2 H3 ∧ NoHit (x.at_ j) what (doc, seg) ((FhWork.namesOf (x.at_ j)).take i))
      ⟨none, rfl, Same.refl _, fun m hm => by cases hm⟩ (fun i σ H3 _ ⟨_, _, s, _⟩ => s.seq (SqL.of hpl)) ?_ ?_⟩
    · rintro i z σ H3 hi ⟨u, rfl, s3, no⟩
      obtain ⟨t, rfl, ht⟩ := hz z (List.mem_of_getElem? hi)
      have hm : ((FhWork.namesOf (x.at_ j)).map ni)[i]? = some (pairAt H1 (.ref t)) := by rw [← en, List.getElem?_map, hi]; rfl
      rw [List.getElem?_map] at hm
      cases q : (FhWork.namesOf (x.at_ j))[i]? with
      | none => rw [q] at hm; cases hm
      | some m =>
        rw [q] at hm
        have em : ni m = pairAt H1 (.ref t) := Option.some.inj hm
        rw [← em] at ht
        have ht3 := s3 _ _ (s2 _ _ ht)
        simp [tSeq, tIfS, tTest, tOp, rEq, rNe, rI0, rI, tVar, tC, tRet, tNext, L2.start, scal_ii, scal_nn, scal_in, scal_ni, scal_bb, line1, line2, line3, line7, tAnd, tOr, tNot, CDiv, CMul, tAsg, gName, tAndV, tOrV, tNotV, tCall, tCons, tNil, tCB, rU, tUn, tIf, tB, cx_K, cx_noxK, rIxL, rIxT, tTup, rGeP, rIxT, tDGet]
        intro pt hpt
        have s4 := s3.trans (same_upd (o := .tup [.int (doc : Nat), .int (seg : Nat)]) hpt)
        have ht4 := s4 _ _ (s2 _ _ ht)
        have hpt4 : upd H3 pt (.tup [.int (doc : Nat), .int (seg : Nat)]) pt = some (.tup [.int (doc : Nat), .int (seg : Nat)]) := upd_same
        generalize upd H3 pt (.tup [.int (doc : Nat), .int (seg : Nat)]) = H4 at *
        refine ⟨_, _, SqT.of ht4, _, _, SqT.of hpt4, ?_⟩
        rw [show SrtO.lexB ((ni m).1, (ni m).2) (((doc : Nat) : Int), ((seg : Nat) : Int)) = FhWork.nameBefore m (doc, seg) from lex_ni m (doc, seg)]
        cases nb : FhWork.nameBefore m (doc, seg) with
        | true => exact .inl ⟨rfl, s4, no.snoc q (by rw [nb]; rfl)⟩
        | false =>
          refine .inr ⟨rfl, ?_⟩
          have mn : m ∈ ns.map (·.1) := by
            obtain ⟨r, h1, h2⟩ := names_mem.mp (List.mem_of_getElem? q)
            rw [← h2]
            exact S.mem r h1
          obtain ⟨e', he, ee⟩ := List.mem_map.mp mn
          obtain ⟨ws, g1, g2⟩ := S.ls e' he
          have s24 := s2.trans s4
          have hd := DGet.t (k := nk m) (s24 _ _ S.dc) (by rw [nk_map]; exact ht4)
          rw [sents_some (n := m) (l := e'.2) S.nd (by rw [← ee]; exact he)] at hd
          refine ⟨_, hd, e'.2, ws, segOf (x.at_ j) m, what, rfl, SqL.of (s24 _ _ g1), ?_, ?_, ?_, fun H5 s5 => ?_⟩
          · have g3 := g2.mono fun _ _ z => RecV.same s24 z
            rw [show e'.1 = m from ee] at g3
            exact g3
          · exact Nat.le_trans (List.length_filter_le _ _) hI.at_.ok.few
          · exact fun r hr => (hI.at_.ok.recs r (List.mem_filter.mp hr).1).ov
          have es : soM (segOf (x.at_ j) m) what = FhWork.isSo (x.at_ j) what m := (isSo_seg hI.at_.ok (by omega) m).symm
          rw [es]
          have s45 := s4.trans s5
          cases so : FhWork.isSo (x.at_ j) what m with
          | false => exact .inl ⟨rfl, s45, no.snoc q (by rw [nb, so]; rfl)⟩
          | true =>
            refine .inr ⟨rfl, ?_⟩
            have e : FhWork.nextOf (x.at_ j) what (doc, seg) = some m := find_hit q no (by rw [nb, so]; rfl)
            rw [e] at h
            have ht5 := s5 _ _ ht4
            refine ⟨_, rfl, t, _, _, _, rfl, rfl, SqT.of ht5, atI_nat (j := 0) rfl, ?_⟩
            refine ⟨_, rfl, t, _, _, _, rfl, rfl, SqT.of ht5, atI_nat (j := 1) rfl, line3, fun o ho => ?_⟩
            refine (h.up (s2.trans s45)).same ((hI.same (s2.trans s45)).all) (same_upd ho) ho ?_
            exact upd_same
    · rintro σ H3 ⟨u, rfl, s3, no⟩
      rw [← few, List.take_length] at no
      have e : FhWork.nextOf (x.at_ j) what (doc, seg) = none := by
        unfold FhWork.nextOf
        rw [List.find?_eq_none]
        exact fun m hm => by rw [no m hm]; decide
      rw [e] at h
      simp [tSeq, tIfS, tTest, tOp, rEq, rNe, rI0, rI, tVar, tC, tRet, tNext, L2.start, scal_ii, scal_nn, scal_in, scal_ni, scal_bb, line1, line2, line3, line7, tAnd, tOr, tNot, CDiv, CMul, tAsg, gName, tAndV, tOrV, tNotV, tCall, tCons, tNil, tCB, rU, tUn, tIf, tB, cx_K, cx_noxK, rIxL, rIxT, tLst]
      exact (h.up (s2.trans s3)).no (hI.same (s2.trans s3)).all
end
end Fj
set_option Elab.async false
set_option linter.all false
set_option maxRecDepth 100000
set_option maxHeartbeats 4000000
namespace Fj
open PySem PySem.Spec PyProof.Rows L2
open Fh (Bytes Piece)
open FhWork (Rec Journal Name)
theorem JOk.can {j : Journal} (h : JOk j) {r : Rec} (m : r ∈ j) : CanR r := (h.recs r m).can
theorem at_none {j : Journal} {s : Nat} (h : j.has s = false) : j.at_ s = none := by
  unfold Journal.has at h
  simpa using h
theorem at_some {j : Journal} {s : Nat} (h : j.has s = true) : ∃ x, j.at_ s = some x := by
  unfold Journal.has at h
  exact Option.isSome_iff_exists.mp h
section
variable {P : Program} {w : World} {K : PySem.W.Frag} {mg : Str → Option Value} {base : Heap}
def hasJust (j : Journal) (r : Rec) : Bool := decide (j.at_ r.stamp = some r)
def spHasJust (K : PySem.W.Frag) : Sp := fun vs H Q _ => ∃ (J d p : Addr) (j : Journal) (r : Rec), vs = [.ref J, .ref p] ∧ JAt K H J d j ∧ RecAt K H p r ∧ CanR r ∧ Q (.bl (hasJust j r)) H
theorem sc_has_just : FnScope ["journal", "record"] ["journal", "record"] (defScope s_has_just) := ⟨rfl, rfl, rfl, by decide +kernel, rfl, by decide +kernel, by decide +kernel⟩
theorem ok_has_just (T : Tx K mg) : OkF P w K mg base 2 "has_just" ["journal", "record"] (spHasJust K) := by
  refine okf (d := d_has_just) 54 54 (N := ["journal", "record"]) T rfl rfl rfl rfl rfl sc_has_just (fun _ _ _ _ _ _ us hl => match us, hl with | [_, _], _ => rfl) (fun vs H Q E h => ?_) (fun f cdv A outer s H vs Q E hr h => ?_)
  · obtain ⟨J, d, p, j, r, rfl, hJ, R, cr, h⟩ := h
    rfl
  · obtain ⟨J, d, p, j, r, rfl, hJ, R, cr, h⟩ := h
    have hu := hu_of hr
    refine ⟨_, (pss_one (ps_ret (pe_and (pe_meth (pv 0) T.c_Journal T.m_Journal_has_stamp (ok_Journal_has_stamp T) (hr.mono (by decide)) (b_Journal_has_stamp T) .nil pass0 (pa_cons (pe_fld (pv 1) rfl) pa_nil)) (pe_one (pe_callF (ok_is_same T) (hr.mono (by decide)) (pa_cons (pe_dget hu (pe_fld (pv 0) rfl) (pe_fld (pv 1) rfl) (fun _ _ => rfl)) (pa_cons (pv 1) pa_nil))))))), ?_⟩
    obtain ⟨e1, e2, e3, e4, e5, c1, c2, c3, c4, c5⟩ := R.ex
    obtain ⟨dx, ho⟩ := hJ.ob
    refine ⟨_, rfl, J, dx, _, rfl, ho, rfl, _, rfl, _, _, _, _, _, rfl, c1, T.c_Record, T.n_Record_stamp, recF_stamp _ _ _ _ _ _ _ _, J, d, j, r.stamp, rfl, hJ, _, rfl, ?_⟩
    cases hs : j.has r.stamp with
    | false =>
      rw [if_neg (by decide)]
      have e : hasJust j r = false := by unfold hasJust; rw [at_none hs]; rfl
      rw [e] at h
      exact h
    | true =>
      rw [if_pos rfl]
      obtain ⟨x, hx⟩ := at_some hs
      obtain ⟨px, kvs, hd, hv, Rx⟩ := hJ.get hx
      obtain ⟨m, ex⟩ := at_mem hx
      refine ⟨_, rfl, _, _, _, _, _, rfl, ho, T.c_Journal, T.n_Journal_records, rfl, _, rfl, _, _, _, _, _, rfl, c1, T.c_Record, T.n_Record_stamp, recF_stamp _ _ _ _ _ _ _ _, d, .ref px, rfl, ?_, _, rfl, px, p, x, r, rfl, Rx, R, hJ.ok.can m, cr, ?_⟩
      · have z := DGet.k (k := Sum.inl ((r.stamp : Nat) : Int)) hd
        rw [hv] at z
        exact z
      · have e : decide (x = r) = hasJust j r := by
          unfold hasJust
          rw [hx, Bool.eq_iff_iff, decide_eq_true_eq, decide_eq_true_eq, Option.some.injEq]
        rw [e]
        exact h
def mayOver (j : Journal) (r : Rec) (s : Nat) : Bool := match j.at_ s with
  | some x => x.name == r.name && (decide (FhWork.tickOf s < FhWork.tickOf r.stamp) && (if r.kind = 2 then x.targets else x.works))
  | none => false
def spMayOver (K : PySem.W.Frag) : Sp := fun vs H Q _ => ∃ (J d p : Addr) (j : Journal) (r : Rec) (s : Nat), vs = [.ref J, .ref p, .int (s : Nat)] ∧ JAt K H J d j ∧ RecAt K H p r ∧ Q (.bl (mayOver j r s)) H
theorem sc_may_be_over : FnScope ["journal", "record", "stamp", "base"] ["journal", "record", "stamp"] (defScope s_may_be_over) := ⟨rfl, rfl, rfl, by decide +kernel, rfl, by decide +kernel, by decide +kernel⟩
theorem ok_may_be_over (T : Tx K mg) : OkF P w K mg base 2 "may_be_over" ["journal", "record", "stamp"] (spMayOver K) := by
  refine okf (d := d_may_be_over) 55 55 (N := ["journal", "record", "stamp", "base"]) T rfl rfl rfl rfl rfl sc_may_be_over (fun _ _ _ _ _ _ us hl => match us, hl with | [_, _, _], _ => rfl) (fun vs H Q E h => ?_) (fun f cdv A outer s H vs Q E hr h => ?_)
  · obtain ⟨J, d, p, j, r, st, rfl, hJ, R, h⟩ := h
    rfl
  · obtain ⟨J, d, p, j, r, st, rfl, hJ, R, h⟩ := h
    have hu := hu_of hr
    refine ⟨_, (pss_cons (ps_if (pt_not (pt_val (pe_meth (pv 0) T.c_Journal T.m_Journal_has_stamp (ok_Journal_has_stamp T) (hr.mono (by decide)) (b_Journal_has_stamp T) .nil pass0 (pa_cons (pv 2) pa_nil)))) (pss_one (ps_ret pe_bl)) pss_nil)
      (pss_cons (ps_set (i := 3) sc_may_be_over.nd rfl (Or.inl rfl) (pe_dget hu (pe_fld (pv 0) rfl) (pv 2) (fun _ _ => rfl)))
      (pss_cons (ps_if (PW.pt (pw_or (pt_cmpR op_eq (pe_fld (pv 3) rfl) (pe_gi T.i_REMARK_records) (nomark _)) (pw_or1 (PW.pt (pw_and (pt_cmpR op_eq (pe_fld (pv 1) rfl) (pe_gi T.i_VERDICT) (nomark _)) (pw_and1 (pt_cmpR op_eq (pe_fld (pv 3) rfl) (pe_gi T.i_TAKING_BACK) (nomark _)))))))) (pss_one (ps_ret pe_bl)) pss_nil)
      (pss_one (ps_ret (pe_and (pe_cmpR (op_eqD hr.units) (pe_fld (pv 3) rfl) (pe_fld (pv 1) rfl) (nomark _)) (pe_one (pe_cmpR op_lt (pe_callF (ok_tick_of T) (hr.mono (by decide)) (pa_cons (pv 3) pa_nil)) (pe_callF (ok_tick_of T) (hr.mono (by decide)) (pa_cons (pv 1) pa_nil)) (nomark _))))))))), ?_⟩
    obtain ⟨e1, e2, e3, e4, e5, c1, c2, c3, c4, c5⟩ := R.ex
    obtain ⟨dx, ho⟩ := hJ.ob
    refine ⟨_, rfl, J, dx, _, rfl, ho, rfl, _, rfl, J, d, j, st, rfl, hJ, _, rfl, ?_⟩
    dsimp only
    cases hs : j.has st with
    | false =>
      rw [if_pos (by rfl)]
      have e : mayOver j r st = false := by unfold mayOver; rw [at_none hs]
      rw [e] at h
      exact h
    | true =>
      rw [if_neg (by decide)]
      obtain ⟨x, hx⟩ := at_some hs
      obtain ⟨px, kvs, hd, hv, Rx⟩ := hJ.get hx
      obtain ⟨m, ex⟩ := at_mem hx
      have kx := (hJ.ok.recs x m).kind
      obtain ⟨f1, f2, f3, f4, f5, d1, d2, d3, d4, d5⟩ := Rx.ex
      simp [tSeq, tIfS, tTest, tOp, rEq, rNe, rI0, rI, tVar, tC, tRet, tNext, L2.start, scal_ii, scal_nn, scal_in, scal_ni, scal_bb, line1, line2, line3, line7, tAnd, tOr, tNot, CDiv, CMul, tAsg, gName, tAndV, tOrV, tNotV, tCall, tCons, tNil, tCB, rU, tUn, tIf, tB, cx_K, cx_noxK, rIxL, rIxT, tFld, tDGet, rEqD]
      refine ⟨_, _, _, ho, T.c_Journal, T.n_Journal_records, _, rfl, d, rfl, .ref px, ?_, ?_⟩
      · have z := DGet.k (k := Sum.inl ((st : Nat) : Int)) hd
        rw [hv] at z
        exact z
      have em : mayOver j r st = (x.name == r.name && (decide (FhWork.tickOf st < FhWork.tickOf r.stamp) && (if r.kind = 2 then x.targets else x.works))) := by
        unfold mayOver
        rw [hx]
      have no : mayOver j r st = false → Q (.bl false) H := fun z => by
        rw [z] at h
        exact h
      refine ⟨px, rfl, _, _, _, d1, T.c_Record, T.n_Record_kind, _, recF_kind _ _ _ _ _ _ _ _, rfl, ?_⟩
      by_cases k4 : x.kind = 4
      · rw [if_pos (by rw [k4]; rfl)]
        refine no ?_
        rw [em]
        simp [FhWork.Rec.targets, FhWork.Rec.works, k4]
      rw [if_neg (fun z => k4 (by injection z with z; exact Int.ofNat.inj z))]
      refine ⟨_, _, _, c1, T.c_Record, T.n_Record_kind, _, recF_kind _ _ _ _ _ _ _ _, rfl, ?_⟩
      by_cases k2 : r.kind = 2
      · rw [if_pos (by rw [k2]; rfl)]
        refine ⟨px, rfl, _, _, _, d1, T.c_Record, T.n_Record_kind, _, recF_kind _ _ _ _ _ _ _ _, rfl, ?_⟩
        by_cases k3 : x.kind = 3
        · rw [if_pos (by rw [k3]; rfl)]
          refine no ?_
          rw [em]
          simp [FhWork.Rec.targets, k3, k2]
        rw [if_neg (fun z => k3 (by injection z with z; exact Int.ofNat.inj z))]
        refine ⟨px, rfl, _, _, _, d1, T.c_Record, T.n_Record_name, _, recF_name _ _ _ _ _ _ _ _, _, _, _, c1, T.c_Record, T.n_Record_name, _, recF_name _ _ _ _ _ _ _ _, _, nmD_at d2, _, nmD_at c2, nmD_shaped _, nmD_shaped _, ?_⟩
        rw [nmD_eqv]
        by_cases kn : x.name = r.name
        · rw [if_pos (decide_eq_true kn)]
          refine ⟨px, x, rfl, Rx, p, r, rfl, R, _, rfl, _, rfl, ?_⟩
          have e : decide (((FhWork.tickOf x.stamp : Nat) : Int) < ((FhWork.tickOf r.stamp : Nat) : Int)) = mayOver j r st := by
            rw [em, Bool.eq_iff_iff, decide_eq_true_eq, ex]
            rcases kx with z | z | z | z <;> simp_all [FhWork.Rec.targets] <;> omega
          rw [e]
          exact h
        · rw [if_neg (by rw [decide_eq_false kn]; decide)]
          exact no (by rw [em]; simp [kn])
      · rw [if_neg (fun z => k2 (by injection z with z; exact Int.ofNat.inj z))]
        refine ⟨px, rfl, _, _, _, d1, T.c_Record, T.n_Record_name, _, recF_name _ _ _ _ _ _ _ _, _, _, _, c1, T.c_Record, T.n_Record_name, _, recF_name _ _ _ _ _ _ _ _, _, nmD_at d2, _, nmD_at c2, nmD_shaped _, nmD_shaped _, ?_⟩
        rw [nmD_eqv]
        by_cases kn : x.name = r.name
        · rw [if_pos (decide_eq_true kn)]
          refine ⟨px, x, rfl, Rx, p, r, rfl, R, _, rfl, _, rfl, ?_⟩
          have e : decide (((FhWork.tickOf x.stamp : Nat) : Int) < ((FhWork.tickOf r.stamp : Nat) : Int)) = mayOver j r st := by
            rw [em, Bool.eq_iff_iff, decide_eq_true_eq, ex]
            rcases kx with z | z | z | z <;> simp_all [FhWork.Rec.works] <;> omega
          rw [e]
          exact h
        · rw [if_neg (by rw [decide_eq_false kn]; decide)]
          exact no (by rw [em]; simp [kn])
end
end Fj
set_option Elab.async false
set_option linter.all false
set_option maxRecDepth 100000
set_option maxHeartbeats 4000000
namespace Fj
open PySem PySem.Spec PyProof.Rows L2
open Fh (Bytes Piece)
open FhWork (Rec Journal Name)
/-- all but what stands at t -/
def del (H : Hp) (t : Addr) : Hp := fun b => if b = t then none else H b
theorem del_ne {H : Hp} {t b : Addr} (h : b ≠ t) : del H t b = H b := if_neg h
theorem del_same {H H' : Hp} {t : Addr} (s : ∀ b o, H b = some o → b ≠ t → H' b = some o) : Same (del H t) H' := fun b o e => by
  by_cases c : b = t
  · unfold del at e
    rw [if_pos c] at e
    cases e
  · rw [del_ne c] at e
    exact s b o e c
theorem RecAt.del {K : PySem.W.Frag} {H : Hp} {t : Addr} {od : Obj} {o : HO} (ht : H t = some (.frz od o)) {p : Addr} {r : Rec} (h : RecAt K H p r) : RecAt K (del H t) p r := by
  obtain ⟨dx, nm, ov, so, ro, h1, h2, h3, h4, h5⟩ := h.ex
  refine ⟨dx, nm, ov, so, ro, ?_, ?_, ?_, ?_, ?_⟩
  · rw [del_ne (ne_of h1 ht (by intro z; cases z))]; exact h1
  · rw [del_ne (ne_of h2 ht (by intro z; cases z))]; exact h2
  · rw [del_ne (ne_of h3 ht (by intro z; cases z))]; exact h3
  · rw [del_ne (ne_of h4 ht (by intro z; cases z))]; exact h4
  · rw [del_ne (ne_of h5 ht (by intro z; cases z))]; exact h5
theorem JAt.del {K : PySem.W.Frag} {H : Hp} {t : Addr} {od : Obj} {o : HO} (ht : H t = some (.frz od o)) {J d : Addr} {j : Journal} (h : JAt K H J d j) : JAt K (del H t) J d j := by
  obtain ⟨dx, ho⟩ := h.ob
  obtain ⟨rs, h1, h2, h3⟩ := h.ex
  refine ⟨⟨dx, ?_⟩, ⟨rs, ?_, h2, fun q hq => (h3 q hq).del ht⟩, h.ok⟩
  · rw [del_ne (ne_of ho ht (by intro z; cases z))]; exact ho
  · rw [del_ne (ne_of h1 ht (by intro z; cases z))]; exact h1
theorem StAt.del {K : PySem.W.Frag} {H : Hp} {t : Addr} {od : Obj} {o : HO} (ht : H t = some (.frz od o)) {L : Addr} {x : FhJournals.State} (h : StAt K H L x) : StAt K (del H t) L x := by
  obtain ⟨J0, J1, J2, d0, d1, d2, h1, h2, h3, h4, h5⟩ := h.ex
  refine ⟨J0, J1, J2, d0, d1, d2, ?_, h2.del ht, h3.del ht, h4.del ht, h5⟩
  rw [del_ne (ne_of h1 ht (by intro z; cases z))]
  exact h1
theorem RecV.del {K : PySem.W.Frag} {H : Hp} {t : Addr} {od : Obj} {o : HO} (ht : H t = some (.frz od o)) {v : V} {r : Rec} (h : RecV K H v r) : RecV K (del H t) v r := by
  obtain ⟨p, e, h⟩ := h
  exact ⟨p, e, h.del ht⟩
theorem del_up {H H' : Hp} {t : Addr} (s : Same H H') (n : H t = none) : Same H (del H' t) := fun b o e => by
  rw [del_ne (ne_of_none e n)]
  exact s b o e
theorem del_back {H : Hp} {t : Addr} {o : HO} : Same (del H t) (upd H t o) := fun b q e => by
  by_cases c : b = t
  · unfold del at e
    rw [if_pos c] at e
    cases e
  · rw [upd_ne c]
    rw [del_ne c] at e
    exact e
theorem del_upd {H : Hp} {t : Addr} {o : HO} : del (upd H t o) t = del H t := by
  funext b
  by_cases c : b = t
  · unfold del
    rw [if_pos c, if_pos c]
  · rw [del_ne c, del_ne c, upd_ne c]
theorem del_sub {H : Hp} {t : Addr} : Same (del H t) H := fun b q e => by
  by_cases c : b = t
  · unfold del at e
    rw [if_pos c] at e
    cases e
  · rw [del_ne c] at e
    exact e
/-- the heads of the segment n, in a list of their own -/
def HdsV (K : PySem.W.Frag) (H : Hp) (j : Journal) (v : V) (n : Name) : Prop := ∃ l ws, v = .ref l ∧ H l = some (.lst ws) ∧ All2 (RecV K H) ws (FhWork.heads j n)
theorem HdsV.same {K : PySem.W.Frag} {H H' : Hp} (s : Same H H') {j : Journal} {v : V} {n : Name} (h : HdsV K H j v n) : HdsV K H' j v n := by
  obtain ⟨l, ws, e, h1, h2⟩ := h
  exact ⟨l, ws, e, s _ _ h1, h2.mono fun _ _ z => RecV.same s z⟩
theorem HdsV.del {K : PySem.W.Frag} {H : Hp} {t : Addr} {od : Obj} {o : HO} (ht : H t = some (.frz od o)) {j : Journal} {v : V} {n : Name} (h : HdsV K H j v n) : HdsV K (del H t) j v n := by
  obtain ⟨l, ws, e, h1, h2⟩ := h
  refine ⟨l, ws, e, ?_, h2.mono fun _ _ z => RecV.del ht z⟩
  rw [del_ne (ne_of h1 ht (by intro z; cases z))]
  exact h1
/-- a call while something is locked -/
theorem pe_lockF {X : Cx} {k : Nat} {x : Str} {ps : List Str} {sp : Sp} {e : Expr} {es : List Expr} {t : TA} {p pos : Pos} (O : OkF X.prog X.w X.K X.mg X.base k x ps sp) (hr : Room k X.A) (ha : PA X (e :: es) t) (hg : Gl X x := by rfl)
    (hdb : (x == ("__debug__" : Str)) = false := by decide) (he : starEach (e :: es) X.env = (false, eval e X.env) :: starEach es X.env := by rfl) (hpl : (backTo pos (starEach es X.env)).any (·.1) = false := by rfl) :
    PE X (.Call (.Name x p) (e :: es) [] pos) (tLockE (tCall sp [] E0 t)) := pe_lock (pe_callF O hr ha hg hdb he hpl)
end Fj
set_option Elab.async false
set_option linter.all false
set_option maxRecDepth 100000
set_option maxHeartbeats 4000000
namespace Fj
open PySem PySem.Spec PyProof.Rows L2
open Fh (Bytes Piece)
open FhWork (Rec Journal Name)
section
variable {P : Program} {w : World} {K : PySem.W.Frag} {mg : Str → Option Value} {base : Heap}
def stateM (hs : List Rec) : Nat := match standM hs with
  | some r => r.state
  | none => 0
def spStState (K : PySem.W.Frag) : Sp := fun vs H Q _ => ∃ (l : Addr) (ws : List V) (hs : List Rec), vs = [.ref l] ∧ SqL K H l ws ∧ All2 (RecV K H) ws hs ∧ Q (.int (stateM hs : Nat)) H
theorem sc_standing_state : FnScope ["heads", "record"] ["heads"] (defScope s_standing_state) := ⟨rfl, rfl, rfl, by decide +kernel, rfl, by decide +kernel, by decide +kernel⟩
theorem ok_standing_state (T : Tx K mg) : OkF P w K mg base 2 "standing_state" ["heads"] (spStState K) := by
  refine okf (d := d_standing_state) 60 60 (N := ["heads", "record"]) T rfl rfl rfl rfl rfl sc_standing_state (fun _ _ _ _ _ _ us hl => match us, hl with | [_], _ => rfl) (fun vs H Q E h => ?_) (fun f cdv A outer s H vs Q E hr h => ?_)
  · obtain ⟨l, ws, hs, rfl, hS, al, h⟩ := h
    rfl
  · obtain ⟨l, ws, hs, rfl, hS, al, h⟩ := h
    have hu := hu_of hr
    refine ⟨_, (pss_cons (ps_set (i := 1) sc_standing_state.nd rfl (Or.inl rfl) (pe_callF (ok_standing T) (hr.mono (by decide)) (pa_cons (pv 0) pa_nil)))
      (pss_cons (ps_if (pt_cmpR op_isN (pv 1) pe_non (nomark _)) (pss_one (ps_ret pe_int)) pss_nil)
      (pss_one (ps_ret (pe_fld (pv 1) rfl))))), ?_⟩
    simp [tSeq, tIfS, tTest, tOp, rEq, rNe, rI0, rI, tVar, tC, tRet, tNext, L2.start, scal_ii, scal_nn, scal_in, scal_ni, scal_bb, line1, line2, line3, line7, tAnd, tOr, tNot, CDiv, CMul, tAsg, gName, tAndV, tOrV, tNotV, tCall, tCons, tNil, tCB, rU, tUn, tIf, tB, cx_K, cx_noxK, rIxL, rIxT, tFld]
    refine ⟨l, ws, hs, rfl, hS, al, fun v hv => ?_⟩
    unfold stateM at h
    cases q : standM hs with
    | none =>
      rw [q] at hv h
      obtain rfl := hv
      rw [if_pos rfl]
      exact h
    | some r =>
      rw [q] at hv h
      obtain ⟨p, rfl, R⟩ := hv
      obtain ⟨e1, e2, e3, e4, e5, c1, _⟩ := R.ex
      rw [if_neg (by intro z; cases z)]
      exact ⟨p, rfl, _, _, _, c1, T.c_Record, T.n_Record_state, _, recF_state _ _ _ _ _ _ _ _, h⟩
def spCount (K : PySem.W.Frag) : Sp := fun vs H Q _ => ∃ (L : Addr) (x : FhJournals.State) (j : Nat), vs = [.ref L, .int (j : Nat)] ∧ StAt K H L x ∧ Ans K H L (FhJournals.step x (.count j)) Q
theorem sc_count_records : FnScope ["journals", "j"] ["journals", "j"] (defScope s_count_records) := ⟨rfl, rfl, rfl, by decide +kernel, rfl, by decide +kernel, by decide +kernel⟩
theorem ok_count_records (T : Tx K mg) : OkF P w K mg base 6 "count_records" ["journals", "j"] (spCount K) := by
  refine okf (d := d_count_records) 61 61 (N := ["journals", "j"]) T rfl rfl rfl rfl rfl sc_count_records (fun _ _ _ _ _ _ us hl => match us, hl with | [_, _], _ => rfl) (fun vs H Q E h => ?_) (fun f cdv A outer s H vs Q E hr h => ?_)
  · obtain ⟨L, x, j, rfl, st, h⟩ := h
    rfl
  · obtain ⟨L, x, j, rfl, st, h⟩ := h
    have hu := hu_of hr
    refine ⟨_, (pss_cons (ps_if (pt_val (pe_callF (ok_is_no_journal T) (hr.mono (by decide)) (pa_cons (pv 1) pa_nil))) (pss_one (ps_ret (pe_lst (pa_cons (pe_un un_neg pe_int) pa_nil)))) pss_nil)
      (pss_one (ps_ret (pe_lst (pa_cons (pe_callB call_lenD (by rfl) T.b_len PySem.boot_len (pa_cons (pe_fld (pe_ix ix_list (pv 0) (pv 1) (fun _ _ => rfl)) rfl) pa_nil)) pa_nil))))), ?_⟩
    have e0 : FhJournals.step x (.count j) = (x, if 2 < j then FhJournals.says (-1) else FhJournals.counts (x.at_ j).length) := rfl
    rw [e0] at h
    clear e0
    simp [tSeq, tIfS, tTest, tOp, rEq, rNe, rI0, rI, tVar, tC, tRet, tNext, L2.start, scal_ii, scal_nn, scal_in, scal_ni, scal_bb, line1, line2, line3, line7, tAnd, tOr, tNot, CDiv, CMul, tAsg, gName, tAndV, tOrV, tNotV, tCall, tCons, tNil, tCB, rU, tUn, tIf, tB, cx_K, cx_noxK, rIxL, rIxT, spI1, tLst, tFld]
    by_cases c1 : (2 : Int) < (j : Nat)
    · rw [if_pos c1]
      rw [if_pos (by omega)] at h
      exact h.no st
    rw [if_neg c1]
    rw [if_neg (by omega)] at h
    obtain ⟨J, d, vs, c3, c4, hJ, put⟩ := st.get (i := j) (by omega)
    obtain ⟨dx, ho⟩ := hJ.ob
    obtain ⟨rs, h1, h2, h3⟩ := hJ.ex
    refine ⟨_, SqL.of c3, _, atI_nat c4, J, rfl, _, _, _, ho, T.c_Journal, T.n_Journal_records, _, rfl, d, rfl, _, h1, ?_⟩
    have lr : (jents rs).length = (x.at_ j).length := by
      unfold jents
      rw [List.length_map]
      simpa using h2.length_eq
    rw [lr]
    exact h.no st
def spSeen (K : PySem.W.Frag) : Sp := fun vs H Q _ => ∃ (L : Addr) (x : FhJournals.State) (j a b : Nat), vs = [.ref L, .int (j : Nat), .int (a : Nat), .int (b : Nat)] ∧ StAt K H L x ∧ Ans K H L (FhJournals.step x (.seen j a b)) Q
theorem sc_seen : FnScope ["journals", "j", "a", "b", "journal"] ["journals", "j", "a", "b"] (defScope s_seen) := ⟨rfl, rfl, rfl, by decide +kernel, rfl, by decide +kernel, by decide +kernel⟩
theorem ok_seen (T : Tx K mg) : OkF P w K mg base 6 "seen" ["journals", "j", "a", "b"] (spSeen K) := by
  refine okf (d := d_seen) 63 63 (N := ["journals", "j", "a", "b", "journal"]) T rfl rfl rfl rfl rfl sc_seen (fun _ _ _ _ _ _ us hl => match us, hl with | [_, _, _, _], _ => rfl) (fun vs H Q E h => ?_) (fun f cdv A outer s H vs Q E hr h => ?_)
  · obtain ⟨L, x, j, a, b, rfl, st, h⟩ := h
    rfl
  · obtain ⟨L, x, j, a, b, rfl, st, h⟩ := h
    have hu := hu_of hr
    refine ⟨_, (pss_cons (ps_if (pt_val (pe_callF (ok_is_no_journal T) (hr.mono (by decide)) (pa_cons (pv 1) pa_nil))) (pss_one (ps_ret (pe_lst (pa_cons (pe_un un_neg pe_int) pa_nil)))) pss_nil)
      (pss_cons (ps_set (i := 4) sc_seen.nd rfl (Or.inl rfl) (pe_ix ix_list (pv 0) (pv 1) (fun _ _ => rfl)))
      (pss_cons (ps_if (PW.pt (pw_or (pt_not (pt_val (pe_meth (pv 4) T.c_Journal T.m_Journal_has_stamp (ok_Journal_has_stamp T) (hr.mono (by decide)) (b_Journal_has_stamp T) .nil pass0 (pa_cons (pv 2) pa_nil)))) (pw_or1 (pt_not (pt_val (pe_meth (pv 4) T.c_Journal T.m_Journal_has_stamp (ok_Journal_has_stamp T) (hr.mono (by decide)) (b_Journal_has_stamp T) .nil pass0 (pa_cons (pv 3) pa_nil))))))) (pss_one (ps_ret (pe_lst (pa_cons (pe_un un_neg pe_int) pa_nil)))) pss_nil)
      (pss_one (ps_ret (pe_ifExp (pt_val (pe_callF (ok_has_seen T) (hr.mono (by decide)) (pa_cons (pv 4) (pa_cons (pv 3) (pa_cons (pv 2) pa_nil))))) (pe_lst (pa_cons pe_int pa_nil)) (pe_lst (pa_cons pe_int pa_nil)))))))), ?_⟩
    have e0 : FhJournals.step x (.seen j a b) = (x, if 2 < j then FhJournals.says (-1) else if (x.at_ j).has a = false ∨ (x.at_ j).has b = false then FhJournals.says (-2) else FhJournals.says (if FhWork.sees (x.at_ j) a b = true then 1 else 0)) := rfl
    rw [e0] at h
    clear e0
    simp [tSeq, tIfS, tTest, tOp, rEq, rNe, rI0, rI, tVar, tC, tRet, tNext, L2.start, scal_ii, scal_nn, scal_in, scal_ni, scal_bb, line1, line2, line3, line7, tAnd, tOr, tNot, CDiv, CMul, tAsg, gName, tAndV, tOrV, tNotV, tCall, tCons, tNil, tCB, rU, tUn, tIf, tB, cx_K, cx_noxK, rIxL, rIxT, spI1, tLst]
    by_cases c1 : (2 : Int) < (j : Nat)
    · rw [if_pos c1]
      rw [if_pos (by omega)] at h
      exact h.no st
    rw [if_neg c1]
    rw [if_neg (by omega)] at h
    obtain ⟨J, d, vs, c3, c4, hJ, put⟩ := st.get (i := j) (by omega)
    obtain ⟨dx, ho⟩ := hJ.ob
    refine ⟨_, SqL.of c3, _, atI_nat c4, ?_⟩
    refine ⟨_, rfl, J, dx, _, rfl, ho, rfl, _, rfl, J, d, x.at_ j, a, rfl, hJ, ?_⟩
    cases ca : (x.at_ j).has a with
    | false =>
      rw [if_pos (.inl ca)] at h
      refine .inl ⟨rfl, ?_⟩
      exact h.no st
    | true =>
      refine .inr ⟨rfl, _, rfl, J, dx, _, rfl, ho, rfl, _, rfl, J, d, x.at_ j, b, rfl, hJ, ?_⟩
      cases cb : (x.at_ j).has b with
      | false =>
        rw [if_pos (.inr cb)] at h
        refine .inl ⟨rfl, ?_⟩
        exact h.no st
      | true =>
        rw [if_neg (by rw [ca, cb]; simp)] at h
        refine .inr ⟨rfl, J, d, x.at_ j, a, b, rfl, hJ, cb, fun H1 s1 => ?_⟩
        have h := h.up s1
        have st := st.same s1
        cases cs : FhWork.sees (x.at_ j) a b with
        | false =>
          rw [cs, if_neg (by decide)] at h
          exact .inl ⟨rfl, h.no st⟩
        | true =>
          rw [cs, if_pos rfl] at h
          exact .inr ⟨rfl, h.no st⟩
end
end Fj
set_option Elab.async false
set_option linter.all false
set_option maxRecDepth 100000
set_option maxHeartbeats 4000000
namespace Fj
open PySem PySem.Spec PyProof.Rows L2
open Fh (Bytes Piece)
open FhWork (Rec Journal Name)
/-- a record fine by itself -/
structure PreOk (r : Rec) : Prop where
  kind : r.kind = 1 ∨ r.kind = 2 ∨ r.kind = 3 ∨ r.kind = 4
  rem : r.kind = 4 → r.over = []
  ov : r.over.length ≤ 16
  non : r.kind = 2 ∨ r.kind = 3 → r.source = [] ∧ r.row = []
  txt : (Fh.rowText r.source).length ≤ 20000 ∧ (Fh.rowText r.row).length ≤ 20000
  ver : r.kind = 2 → ∃ s, r.over = [s]
  can : CanR r
  st : r.state ≤ 4
def putAns (x : FhJournals.State) (i : Nat) (r : Rec) : FhJournals.State × FhJournals.Answer := match FhWork.putIn (x.at_ i) r with
  | .ok y => (x.with_ i y.2, FhJournals.says (if y.1 = true then 1 else 0))
  | .error w => (x, FhJournals.whyNot w)
theorem with_at (x : FhJournals.State) (i : Nat) : x.with_ i (x.at_ i) = x := by
  unfold FhJournals.State.with_ FhJournals.State.at_
  by_cases c0 : i = 0
  · rw [if_pos c0, if_pos c0]
  · rw [if_neg c0, if_neg c0]
    by_cases c1 : i = 1
    · rw [if_pos c1, if_pos c1]
    · rw [if_neg c1, if_neg c1]
theorem putIn_has {j : Journal} {r x : Rec} (h : j.at_ r.stamp = some x) : FhWork.putIn j r = if x = r then .ok (false, j) else .error .notNow := by
  unfold FhWork.putIn
  rw [h]
theorem putIn_new {j : Journal} {r : Rec} (h : j.at_ r.stamp = none) : FhWork.putIn j r = if r.over.all (mayOver j r) = false then .error .nothing else if ownEye j r = true then .error .notNow else (FhWork.added j r).map fun k => (true, k) := by
  unfold FhWork.putIn
  rw [h]
  show (if r.over.all (mayOver j r) = false then Except.error FhWork.Why.nothing else if FhWork.Rec.goes j r = false then .error .notNow else (FhWork.added j r).map fun k => (true, k)) = _
  by_cases c : r.over.all (mayOver j r) = false
  · rw [if_pos c, if_pos c]
  · rw [if_neg c, if_neg c]
    have c2 : r.over.all (mayOver j r) = true := by simpa using c
    have g : FhWork.Rec.goes j r = (r.over.all (mayOver j r) && !ownEye j r) := rfl
    rw [g, c2, Bool.true_and]
    cases ownEye j r <;> rfl
theorem may_some {j : Journal} {r : Rec} {s : Nat} (h : mayOver j r s = true) : ∃ x, j.at_ s = some x ∧ FhWork.tickOf s < FhWork.tickOf r.stamp ∧ (r.kind = 2 → x.kind = 1 ∨ x.kind = 2) := by
  unfold mayOver at h
  cases e : j.at_ s with
  | none => rw [e] at h; cases h
  | some x =>
    rw [e] at h
    simp only [Bool.and_eq_true, decide_eq_true_eq] at h
    refine ⟨x, rfl, h.2.1, fun k => ?_⟩
    have z := h.2.2
    rw [if_pos k] at z
    unfold FhWork.Rec.targets at z
    simpa using z
theorem tick_lt {s t : Nat} (h : FhWork.tickOf s < FhWork.tickOf t) : s < t := by
  unfold FhWork.tickOf at h
  omega
theorem rok_put {j : Journal} {r : Rec} (p : PreOk r) (h : r.over.all (mayOver j r) = true) : ROk j r := by
  rw [List.all_eq_true] at h
  refine ⟨p.kind, p.rem, p.ov, p.non, p.txt, fun k => ?_, fun s hs => ?_, p.can, p.st⟩
  · obtain ⟨s, e⟩ := p.ver k
    obtain ⟨x, h1, h2, h3⟩ := may_some (h s (by rw [e]; simp))
    refine ⟨s, x, e, h1, h3 k, ?_⟩
    rw [(at_mem h1).2]
    exact tick_lt h2
  · obtain ⟨x, h1, h2, _⟩ := may_some (h s hs)
    obtain ⟨m, e⟩ := at_mem h1
    exact ⟨⟨x, m, e⟩, tick_lt h2⟩
section
variable {P : Program} {w : World} {K : PySem.W.Frag} {mg : Str → Option Value} {base : Heap}
def spTake (K : PySem.W.Frag) : Sp := fun vs H Q _ => ∃ (L J d p : Addr) (x : FhJournals.State) (i : Nat) (r : Rec), vs = [.ref J, .ref p] ∧ JIn K H L x i J d ∧ RecAt K H p r ∧ PreOk r ∧ Ans K H L (putAns x i r) Q
def mayL (j : Journal) (r : Rec) (i : Nat) : List Bool := (r.over.take i).map (mayOver j r)
def mayV (j : Journal) (r : Rec) (i : Nat) : List V := (mayL j r i).map V.bl
theorem sc_take_in : FnScope ["journal", "record", "stamp"] ["journal", "record"] (defScope s_take_in) := ⟨rfl, rfl, rfl, by decide +kernel, rfl, by decide +kernel, by decide +kernel⟩
theorem ok_take_in (T : Tx K mg) : OkF P w K mg base 3 "take_in" ["journal", "record"] (spTake K) := by
  refine okf (d := d_take_in) 53 53 (N := ["journal", "record", "stamp"]) T rfl rfl rfl rfl rfl sc_take_in (fun _ _ _ _ _ _ us hl => match us, hl with | [_, _], _ => rfl) (fun vs H Q E h => ?_) (fun f cdv A outer s H vs Q E hr h => ?_)
  · obtain ⟨L, J, d, p, x, i, r, rfl, hI, R, pre, h⟩ := h
    rfl
  · obtain ⟨L, J, d, p, x, i, r, rfl, hI, R, pre, h⟩ := h
    have hu := hu_of hr
    refine ⟨_, (pss_cons (ps_if (pt_val (pe_meth (pv 0) T.c_Journal T.m_Journal_has_stamp (ok_Journal_has_stamp T) (hr.mono (by decide)) (b_Journal_has_stamp T) .nil pass0 (pa_cons (pe_fld (pv 1) rfl) pa_nil))) (pss_one (ps_ret (pe_ifExp (pt_val (pe_callF (ok_has_just T) (hr.mono (by decide)) (pa_cons (pv 0) (pa_cons (pv 1) pa_nil)))) (pe_lst (pa_cons pe_int pa_nil)) (pe_lst (pa_cons (pe_un un_neg pe_int) pa_nil))))) pss_nil)
      (pss_cons (ps_if (pt_not (pt_val (pe_callB (cr_all rfl) (by rfl) T.b_all (by decide +kernel) (pa_cons (pe_lc (own := [("stamp", 2)]) (g := gName 2) (tt := tYes) (te := (tCall (spMayOver K) [] E0 (tCons (tVar 0) (tCons (tVar 1) (tCons (tVar 2) tNil))))) (by rfl) sc_take_in.nd (pi_list (pe_fld (pv 1) rfl)) (blkOk_by (own := [("stamp", 2)]) (N := ["journal", "record", "stamp"]) (sc := (defScope s_take_in)) (by decide +kernel)) (fun _ _ _ _ _ => pg_name (i := 2) sc_take_in.nd rfl (Or.inl rfl)) (fun _ _ _ _ _ => pts_nil) (fun _ _ _ _ _ => by exact ((pe_callF (ok_may_be_over T) (hr.mono (by decide)) (pa_cons (pv 0) (pa_cons (pv 1) (pa_cons (pv 2) pa_nil))))))) pa_nil)))) (pss_one (ps_ret (pe_lst (pa_cons (pe_un un_neg pe_int) pa_nil)))) pss_nil)
      (pss_cons (ps_if (pt_val (pe_callF (ok_approves_own T) (hr.mono (by decide)) (pa_cons (pv 0) (pa_cons (pv 1) pa_nil)))) (pss_one (ps_ret (pe_lst (pa_cons (pe_un un_neg pe_int) pa_nil)))) pss_nil)
      (pss_cons (ps_if (pt_not (pt_val (pe_meth (pv 0) T.c_Journal T.m_Journal_has_room (ok_Journal_has_room T) (hr.mono (by decide)) (b_Journal_has_room T) .nil pass0 (pa_cons (pe_lst (pa_cons (pv 1) pa_nil)) pa_nil)))) (pss_one (ps_ret (pe_lst (pa_cons (pe_un un_neg pe_int) pa_nil)))) pss_nil)
      (pss_cons (ps_expr (pe_meth (pv 0) T.c_Journal T.m_Journal_put_in (ok_Journal_put_in T) (hr.mono (by decide)) (b_Journal_put_in T) .nil pass0 (pa_cons (pv 1) pa_nil)))
      (pss_one (ps_ret (pe_lst (pa_cons pe_int pa_nil))))))))), ?_⟩
    obtain ⟨e1, e2, e3, e4, e5, c1, c2, c3, c4, c5⟩ := R.ex
    obtain ⟨dx, ho⟩ := hI.at_.ob
    refine ⟨_, rfl, J, dx, _, rfl, ho, rfl, _, rfl, _, _, _, _, _, rfl, c1, T.c_Record, T.n_Record_stamp, recF_stamp _ _ _ _ _ _ _ _, J, d, x.at_ i, r.stamp, rfl, hI.at_, _, rfl, ?_⟩
    cases hs : (x.at_ i).has r.stamp with
    | true =>
      rw [if_pos (by rfl)]
      obtain ⟨x', hx⟩ := at_some hs
      unfold putAns at h
      rw [putIn_has hx] at h
      refine ⟨_, rfl, _, rfl, J, d, p, x.at_ i, r, rfl, hI.at_, R, pre.can, _, rfl, ?_⟩
      have ej : hasJust (x.at_ i) r = decide (x' = r) := by
        unfold hasJust
        rw [hx, Bool.eq_iff_iff, decide_eq_true_eq, decide_eq_true_eq, Option.some.injEq]
      dsimp only
      rw [ej]
      by_cases c : x' = r
      · rw [if_pos (decide_eq_true c)]
        rw [if_pos c] at h
        simp [tSeq, tIfS, tTest, tOp, rEq, rNe, rI0, rI, tVar, tC, tRet, tNext, L2.start, scal_ii, scal_nn, scal_in, scal_ni, scal_bb, line1, line2, line3, line7, tAnd, tOr, tNot, CDiv, CMul, tAsg, gName, tAndV, tOrV, tNotV, tCall, tCons, tNil, tCB, rU, tUn, tIf, tB, cx_K, cx_noxK, rIxL, rIxT, tLst]
        refine fun q hq => ?_
        have h : Ans K H L (x.with_ i (x.at_ i), FhJournals.says 0) Q := h
        rw [with_at] at h
        exact h.no hI.all q hq
      · rw [if_neg (by rw [decide_eq_false c]; decide)]
        rw [if_neg c] at h
        simp [tSeq, tIfS, tTest, tOp, rEq, rNe, rI0, rI, tVar, tC, tRet, tNext, L2.start, scal_ii, scal_nn, scal_in, scal_ni, scal_bb, line1, line2, line3, line7, tAnd, tOr, tNot, CDiv, CMul, tAsg, gName, tAndV, tOrV, tNotV, tCall, tCons, tNil, tCB, rU, tUn, tIf, tB, cx_K, cx_noxK, rIxL, rIxT, tLst]
        exact h.no hI.all
    | false =>
      rw [if_neg (by decide)]
      unfold putAns at h
      rw [putIn_new (at_none hs)] at h
      refine ⟨_, rfl, _, _, _, _, _, rfl, c1, T.c_Record, T.n_Record_over, recF_over _ _ _ _ _ _ _ _, e3, rfl, ⟨_, SqL.of c3⟩, fun D hD => lc_list (K := K) (a := e3) (xs := nv r.over)
        (fun k H2 => H2 = upd H D (.lst (mayV (x.at_ i) r k))) rfl (fun k H2 _ e => by rw [e]; exact SqL.of (same_upd hD _ _ c3)) ?_ ?_⟩
      · rintro k y H2 hk rfl
        obtain ⟨t, ht, rfl⟩ : ∃ t, r.over[k]? = some t ∧ y = .int ((t : Nat) : Int) := by
          unfold nv at hk
          rw [List.getElem?_map, List.getElem?_map] at hk
          cases q : r.over[k]? with
          | none => rw [q] at hk; cases hk
          | some t =>
            rw [q] at hk
            exact ⟨t, rfl, (Option.some.inj hk).symm⟩
        have s2 := same_upd (o := .lst (mayV (x.at_ i) r k)) hD
        refine ⟨rfl, ?_⟩
        simp [tSeq, tIfS, tTest, tOp, rEq, rNe, rI0, rI, tVar, tC, tRet, tNext, L2.start, scal_ii, scal_nn, scal_in, scal_ni, scal_bb, line1, line2, line3, line7, tAnd, tOr, tNot, CDiv, CMul, tAsg, gName, tAndV, tOrV, tNotV, tCall, tCons, tNil, tCB, rU, tUn, tIf, tB, cx_K, cx_noxK, rIxL, rIxT, tYes, wipe]
        refine ⟨J, d, p, x.at_ i, r, t, rfl, hI.at_.same s2, R.same s2, _, upd_same, ?_, ?_⟩
        · have l : (mayV (x.at_ i) r k).length ≤ 16 := by
            unfold mayV mayL
            rw [List.length_map, List.length_map, List.length_take]
            have := pre.ov
            omega
          exact Nat.lt_of_le_of_lt l (by decide)
        · rw [upd_upd]
          unfold mayV mayL
          rw [take_snoc ht, List.map_append, List.map_append]
          rfl
      · rintro H2 rfl
        rw [nv_len]
        refine ⟨D, mayL (x.at_ i) r r.over.length, rfl, SqL.of upd_same, _, rfl, ?_⟩
        have sD := same_upd (o := .lst (mayV (x.at_ i) r r.over.length)) hD
        have ea : (mayL (x.at_ i) r r.over.length).all id = r.over.all (mayOver (x.at_ i) r) := by
          unfold mayL
          rw [List.take_length, List.all_map]
          rfl
        dsimp only
        rw [ea]
        have hI := hI.same sD
        have R := R.same sD
        have h := h.up sD
        have ho := sD _ _ ho
        clear sD
        generalize upd H D (.lst (mayV (x.at_ i) r r.over.length)) = H1 at *
        cases ca : r.over.all (mayOver (x.at_ i) r) with
        | false =>
          rw [if_pos (by rfl)]
          rw [ca, if_pos rfl] at h
          simp [tSeq, tIfS, tTest, tOp, rEq, rNe, rI0, rI, tVar, tC, tRet, tNext, L2.start, scal_ii, scal_nn, scal_in, scal_ni, scal_bb, line1, line2, line3, line7, tAnd, tOr, tNot, CDiv, CMul, tAsg, gName, tAndV, tOrV, tNotV, tCall, tCons, tNil, tCB, rU, tUn, tIf, tB, cx_K, cx_noxK, rIxL, rIxT, tLst]
          exact h.no hI.all
        | true =>
          rw [if_neg (by decide)]
          rw [ca, if_neg (by decide)] at h
          have ro := rok_put pre ca
          refine ⟨_, rfl, _, rfl, J, d, p, x.at_ i, r, rfl, hI.at_, R, fun k => ?_, _, rfl, ?_⟩
          · obtain ⟨s', y, o1, o2, o3, _⟩ := ro.ver k
            exact ⟨s', y, o1, o2, o3⟩
          cases co : ownEye (x.at_ i) r with
          | true =>
            rw [if_pos rfl]
            rw [co, if_pos rfl] at h
            simp [tSeq, tIfS, tTest, tOp, rEq, rNe, rI0, rI, tVar, tC, tRet, tNext, L2.start, scal_ii, scal_nn, scal_in, scal_ni, scal_bb, line1, line2, line3, line7, tAnd, tOr, tNot, CDiv, CMul, tAsg, gName, tAndV, tOrV, tNotV, tCall, tCons, tNil, tCB, rU, tUn, tIf, tB, cx_K, cx_noxK, rIxL, rIxT, tLst]
            exact h.no hI.all
          | false =>
            rw [if_neg (by decide)]
            rw [co, if_neg (by decide)] at h
            refine ⟨_, rfl, J, dx, _, rfl, ho, rfl, _, rfl, line1, fun l hl => ?_⟩
            have sl := same_upd (o := .lst [.ref p]) hl
            refine ⟨J, d, l, x.at_ i, [.ref p], [r], rfl, hI.at_.same sl, SqL.of upd_same, .cons ⟨p, rfl, R.same sl⟩ .nil, (show 1 ≤ 256 by decide), fun H2 s1 => ⟨_, rfl, ?_⟩⟩
            have s1 := sl.trans s1
            have er : (decide ((x.at_ i).length + [r].length ≤ 256) && decide (FhWork.pieces (x.at_ i) + ([r].map FhWork.piecesOf).sum ≤ 16384)) = FhWork.roomFor (x.at_ i) r := room_one _ r
            dsimp only
            rw [er]
            have hI := hI.same s1
            have R := R.same s1
            have h := h.up s1
            have ho := s1 _ _ ho
            clear s1 sl
            cases c : FhWork.roomFor (x.at_ i) r with
            | false =>
              rw [if_pos (by rfl)]
              have e : FhWork.added (x.at_ i) r = .error .full := by unfold FhWork.added; rw [if_neg (by rw [c]; decide)]
              rw [e] at h
              simp [tSeq, tIfS, tTest, tOp, rEq, rNe, rI0, rI, tVar, tC, tRet, tNext, L2.start, scal_ii, scal_nn, scal_in, scal_ni, scal_bb, line1, line2, line3, line7, tAnd, tOr, tNot, CDiv, CMul, tAsg, gName, tAndV, tOrV, tNotV, tCall, tCons, tNil, tCB, rU, tUn, tIf, tB, cx_K, cx_noxK, rIxL, rIxT, tLst]
              exact h.no hI.all
            | true =>
              rw [if_neg (by decide)]
              have e : FhWork.added (x.at_ i) r = .ok (FhWork.into r (x.at_ i)) := by unfold FhWork.added; rw [if_pos c]
              rw [e] at h
              have h : Ans K H2 L (x.with_ i (FhWork.into r (x.at_ i)), FhJournals.says 1) Q := h
              have few := hI.at_.ok.few
              refine ⟨_, rfl, J, dx, _, rfl, ho, rfl, _, rfl, J, d, p, x.at_ i, r, rfl, hI.at_.raw, R, hs, by omega, fun H3 hJ2 k => ?_⟩
              have ok : JOk (FhWork.into r (x.at_ i)) := by
                refine jok_into hI.at_.ok (has_no hs) ro ?_
                unfold FhWork.roomFor FhWork.RECORDS at c
                simp only [Bool.and_eq_true, decide_eq_true_eq] at c
                exact c.1
              have hJ2 := hJ2.well ok
              obtain ⟨rs, hd, _⟩ := hI.at_.ex
              simp [tSeq, tIfS, tTest, tOp, rEq, rNe, rI0, rI, tVar, tC, tRet, tNext, L2.start, scal_ii, scal_nn, scal_in, scal_ni, scal_bb, line1, line2, line3, line7, tAnd, tOr, tNot, CDiv, CMul, tAsg, gName, tAndV, tOrV, tNotV, tCall, tCons, tNil, tCB, rU, tUn, tIf, tB, cx_K, cx_noxK, rIxL, rIxT, tLst]
              intro q hq
              have sq := same_upd (o := .lst [.int 1]) hq
              have k2 : KeptD H2 (upd H3 q (.lst [.int 1])) d := fun b o e hb => sq _ _ (k _ _ e hb)
              refine h _ q (Fr.ofD k2 hd) (hI.put _ _ k2 (hJ2.same sq)) ?_ upd_same
              cases z : H2 q with
              | none => rfl
              | some o =>
                by_cases e : q = d
                · obtain ⟨rs, g, _⟩ := hJ2.ex
                  rw [← e, hq] at g
                  cases g
                · rw [k _ _ z e] at hq
                  cases hq
end
end Fj
set_option Elab.async false
set_option linter.all false
set_option maxRecDepth 100000
set_option maxHeartbeats 4000000
namespace Fj
open PySem PySem.Spec PyProof.Rows L2
open Fh (Bytes Piece)
open FhWork (Rec Journal Name)
theorem len_one {ls : List Nat} (h : ls.length = 1) : ∃ a, ls = [a] := by
  cases ls with
  | nil => cases h
  | cons a l =>
    cases l with
    | nil => exact ⟨a, rfl⟩
    | cons b l => rw [List.length_cons, List.length_cons] at h; omega
theorem shape_is (k s : Nat) (ls : List Nat) : (decide (1 ≤ k ∧ k ≤ 4) && (stateOk k s && overOk k ls)) = (FhJournals.shapeOk k s ls.length && FhWork.rising ls) := by
  unfold FhJournals.shapeOk stateOk overOk FhWork.OVERS
  by_cases k1 : k = 1
  · subst k1
    simp only [if_pos]
    cases FhWork.rising ls <;> simp
    rw [Bool.eq_iff_iff]
    simp only [Bool.and_eq_true, decide_eq_true_eq]
    omega
  by_cases k2 : k = 2
  · subst k2
    by_cases c : ls.length = 1
    · obtain ⟨a, rfl⟩ := len_one c
      rw [Bool.eq_iff_iff]
      simp [FhWork.rising]
    · rw [Bool.eq_iff_iff]
      simp [c]
  by_cases k3 : k = 3
  · subst k3
    cases FhWork.rising ls <;> simp
    rw [Bool.eq_iff_iff]
    simp only [Bool.and_eq_true, decide_eq_true_eq, beq_iff_eq]
  by_cases k4 : k = 4
  · subst k4
    cases ls with
    | nil => rw [Bool.eq_iff_iff]; simp [FhWork.rising]
    | cons a l => simp
  · have e : decide (1 ≤ k ∧ k ≤ 4) = false := decide_eq_false (by omega)
    rw [e]
    simp [k1, k2, k3, k4]
theorem shape_pre {k s : Nat} {ls : List Nat} (h : FhJournals.shapeOk k s ls.length = true) : (k = 1 ∨ k = 2 ∨ k = 3 ∨ k = 4) ∧ (k = 4 → ls = []) ∧ ls.length ≤ 16 ∧ (k = 2 → ∃ a, ls = [a]) ∧ s ≤ 4 := by
  unfold FhJournals.shapeOk FhWork.OVERS at h
  simp only [Bool.or_eq_true, Bool.and_eq_true, decide_eq_true_eq, beq_iff_eq] at h
  refine ⟨by omega, fun k4 => ?_, by omega, fun k2 => len_one (by omega), by omega⟩
  exact List.eq_nil_of_length_eq_zero (by omega)
/-- what holds behind a test that may have made something -/
def MidS (H : Hp) (σ0 : L2.St) (c : Prop) : L2.St → Hp → Prop := fun σ H1 => Same H H1 ∧ σ = σ0 ∧ c
section
variable {P : Program} {w : World} {K : PySem.W.Frag} {mg : Str → Option Value} {base : Heap}
def spPut (K : PySem.W.Frag) : Sp := fun vs H Q _ => ∃ (L : Addr) (x : FhJournals.State) (j stamp kind doc seg state : Nat) (o a b : Addr) (over : List Nat) (src row : Bytes),
  vs = [.ref L, .int (j : Nat), .int (stamp : Nat), .int (kind : Nat), .int (doc : Nat), .int (seg : Nat), .int (state : Nat), .ref o, .ref a, .ref b] ∧ StAt K H L x ∧ H o = some (.lst (nv over)) ∧ H a = some (.lst (bv src)) ∧ H b = some (.lst (bv row)) ∧ over.length ≤ 20000 ∧ src.length ≤ 20000 ∧ row.length ≤ 20000 ∧
  Ans K H L (FhJournals.step x (.put j stamp kind doc seg state over src row)) Q
theorem sc_put : FnScope ["journals", "j", "stamp", "kind", "doc", "seg", "state", "over", "src", "row", "source", "reading", "refusal", "size"] ["journals", "j", "stamp", "kind", "doc", "seg", "state", "over", "src", "row"] (defScope s_put) := ⟨rfl, rfl, rfl, by decide +kernel, rfl, by decide +kernel, by decide +kernel⟩
theorem ok_put (T : Tx K mg) : OkF P w K mg base 10 "put" ["journals", "j", "stamp", "kind", "doc", "seg", "state", "over", "src", "row"] (spPut K) := by
  refine okf (d := d_put) 52 52 (N := ["journals", "j", "stamp", "kind", "doc", "seg", "state", "over", "src", "row", "source", "reading", "refusal", "size"]) T rfl rfl rfl rfl rfl sc_put (fun _ _ _ _ _ _ us hl => match us, hl with | [_, _, _, _, _, _, _, _, _, _], _ => rfl) (fun vs H Q E h => ?_) (fun f cdv A outer s H vs Q E hr h => ?_)
  · obtain ⟨L, x, j, stamp, kind, doc, seg, state, o, a, b, over, src, row, rfl, st, hO, hA, hB, lo, la, lb, h⟩ := h
    rfl
  · obtain ⟨L, x, j, stamp, kind, doc, seg, state, o, a, b, over, src, row, rfl, st, hO, hA, hB, lo, la, lb, h⟩ := h
    have hu := hu_of hr
    refine ⟨_, (pss_mid (ps_if (PW.pt (pw_or (pt_val (pe_callF (ok_stamp_number_is_beyond T) (hr.mono (by decide)) (pa_cons (pv 2) pa_nil))) (pw_or (pt_val (pe_callF (ok_name_is_beyond T) (hr.mono (by decide)) (pa_cons (pv 4) (pa_cons (pv 5) pa_nil)))) (pw_or (pt_val (pe_callF (ok_text_is_beyond T) (hr.mono (by decide)) (pa_cons (pv 8) pa_nil))) (pw_or1 (pt_val (pe_callF (ok_text_is_beyond T) (hr.mono (by decide)) (pa_cons (pv 9) pa_nil)))))))) (pss_one (ps_ret (pe_lst (pa_cons (pe_un un_neg pe_int) pa_nil)))) pss_nil)
      (pss_mid (ps_if (PW.pt (pw_or (pt_val (pe_callF (ok_is_no_journal T) (hr.mono (by decide)) (pa_cons (pv 1) pa_nil))) (pw_or (pt_not (pt_val (pe_callF (ok_is_kind T) (hr.mono (by decide)) (pa_cons (pv 3) pa_nil)))) (pw_or (pt_not (pt_val (pe_callF (ok_state_may_be T) (hr.mono (by decide)) (pa_cons (pv 3) (pa_cons (pv 6) pa_nil))))) (pw_or1 (pt_not (pt_val (pe_callF (ok_over_may_be T) (hr.mono (by decide)) (pa_cons (pv 3) (pa_cons (pv 7) pa_nil)))))))))) (pss_one (ps_ret (pe_lst (pa_cons (pe_un un_neg pe_int) pa_nil)))) pss_nil)
      (pss_cons (ps_set (i := 10) sc_put.nd rfl (Or.inl rfl) (pe_callF (ok_read_text T) (hr.mono (by decide)) (pa_cons (pv 8) pa_nil)))
      (pss_cons (ps_set (i := 11) sc_put.nd rfl (Or.inl rfl) (pe_callF (ok_read_text T) (hr.mono (by decide)) (pa_cons (pv 9) pa_nil)))
      (pss_cons (ps_set (i := 12) sc_put.nd rfl (Or.inl rfl) (pe_callF (ok_put_refusal T) (hr.mono (by decide)) (pa_cons (pv 3) (pa_cons (pv 10) (pa_cons (pv 11) pa_nil)))))
      (pss_cons (ps_if (pt_cmpR (op_neI hr.units) (pv 12) (pe_lst pa_nil) (nomark _)) (pss_one (ps_ret (pv 12))) pss_nil)
      (pss_cons (ps_set (i := 13) sc_put.nd rfl (Or.inl rfl) (pe_op op_add (pe_callB call_len_seq (by rfl) T.b_len PySem.boot_len (pa_cons (pe_fld (pv 10) rfl) pa_nil)) (pe_callB call_len_seq (by rfl) T.b_len PySem.boot_len (pa_cons (pe_fld (pv 11) rfl) pa_nil))))
      (pss_one (ps_ret (pe_callF (ok_take_in T) (hr.mono (by decide)) (pa_cons (pe_ix ix_list (pv 0) (pv 1) (fun _ _ => rfl)) (pa_cons (pe_make T.k_Record (ok_Record_init T) (hr.mono (by decide)) rfl T.g_Record (b_Record_init T) .nil pass0 (pa_cons (pv 2) (pa_cons (pv 3) (pa_cons (pe_tup (pa_cons (pv 4) (pa_cons (pv 5) pa_nil))) (pa_cons (pv 6) (pa_cons (pv 7) (pa_cons (pv 8) (pa_cons (pv 9) (pa_cons (pv 13) pa_nil))))))))) pa_nil)))))))))))), ?_⟩
    have e0 : FhJournals.step x (.put j stamp kind doc seg state over src row) = if FhWork.STAMPS ≤ stamp ∨ FhJournals.wideName doc seg = true ∨ FhJournals.long src = true ∨ FhJournals.long row = true then (x, FhJournals.says (-6)) else if 2 < j ∨ FhJournals.shapeOk kind state over.length = false ∨ FhWork.rising over = false then (x, FhJournals.says (-1)) else (match FhJournals.rowsGiven kind src row with
      | .error a => (x, a)
      | .ok r => putAns x j ⟨stamp, kind, (doc, seg), state, over, r.1, r.2⟩) := rfl
    have l1 : FhJournals.long src = false := by unfold FhJournals.long Fh.ROWTEXT; rw [decide_eq_false_iff_not]; omega
    have l2 : FhJournals.long row = false := by unfold FhJournals.long Fh.ROWTEXT; rw [decide_eq_false_iff_not]; omega
    refine ⟨Mid0 H [some (.ref L), some (.int (j : Nat)), some (.int (stamp : Nat)), some (.int (kind : Nat)), some (.int (doc : Nat)), some (.int (seg : Nat)), some (.int (state : Nat)), some (.ref o), some (.ref a), some (.ref b), none, none, none, none] (¬ (FhWork.STAMPS ≤ stamp ∨ FhJournals.wideName doc seg = true)), ?_, ?_⟩
    · simp [tSeq, tIfS, tTest, tOp, rEq, rNe, rI0, rI, tVar, tC, tRet, tNext, L2.start, scal_ii, scal_nn, scal_in, scal_ni, scal_bb, line1, line2, line3, line7, tAnd, tOr, tNot, CDiv, CMul, tAsg, gName, tAndV, tOrV, tNotV, tCall, tCons, tNil, tCB, rU, tUn, tIf, tB, cx_K, cx_noxK, rIxL, rIxT, spI1, spI2, spLong, tLst]
      have no : (FhWork.STAMPS ≤ stamp ∨ FhJournals.wideName doc seg = true) → ∀ p, H p = none → Q (.ref p) (upd H p (.lst [.int (-6)])) := fun z => by
        rw [e0, if_pos (by rcases z with z | z; exact .inl z; exact .inr (.inl z))] at h
        exact h.no st
      have hst : FhWork.STAMPS = 281474976710656 := rfl
      by_cases c1 : (281474976710656 : Int) ≤ (stamp : Nat)
      · rw [if_pos c1]
        exact no (.inl (by omega))
      rw [if_neg c1]
      refine ⟨_, _, ⟨rfl, rfl⟩, ?_⟩
      by_cases c2 : (15 : Int) < (doc : Nat) ∨ (65535 : Int) < (seg : Nat)
      · rw [if_pos c2]
        exact no (.inr (by rw [wideName_is]; simp only [Bool.or_eq_true, decide_eq_true_eq]; exact c2))
      rw [if_neg c2]
      refine ⟨_, SqL.of hA, ?_⟩
      rw [if_neg (by rw [bv_len]; omega)]
      refine ⟨_, SqL.of hB, ?_⟩
      rw [if_neg (by rw [bv_len]; omega)]
      refine ⟨rfl, rfl, by omega, ?_⟩
      rw [wideName_is]
      simp only [Bool.or_eq_false_iff, decide_eq_false_iff_not]
      simp only [not_or] at c2
      exact c2
    · rintro σ H1 ⟨rfl, rfl, nw⟩
      rw [e0, if_neg (by rw [l1, l2]; simpa using nw)] at h
      clear e0
      refine ⟨MidS H1 [some (.ref L), some (.int (j : Nat)), some (.int (stamp : Nat)), some (.int (kind : Nat)), some (.int (doc : Nat)), some (.int (seg : Nat)), some (.int (state : Nat)), some (.ref o), some (.ref a), some (.ref b), none, none, none, none] (¬ (2 < j ∨ FhJournals.shapeOk kind state over.length = false ∨ FhWork.rising over = false)), ?_, ?_⟩
      · simp [tSeq, tIfS, tTest, tOp, rEq, rNe, rI0, rI, tVar, tC, tRet, tNext, L2.start, scal_ii, scal_nn, scal_in, scal_ni, scal_bb, line1, line2, line3, line7, tAnd, tOr, tNot, CDiv, CMul, tAsg, gName, tAndV, tOrV, tNotV, tCall, tCons, tNil, tCB, rU, tUn, tIf, tB, cx_K, cx_noxK, rIxL, rIxT, spI1, tLst]
        have no : (2 < j ∨ FhJournals.shapeOk kind state over.length = false ∨ FhWork.rising over = false) → ∀ H2, Same H1 H2 → ∀ p, H2 p = none → Q (.ref p) (upd H2 p (.lst [.int (-1)])) := fun z H2 s2 => by
          rw [if_pos z] at h
          exact (h.up s2).no (st.same s2)
        have shp := shape_is kind state over
        by_cases c1 : (2 : Int) < (j : Nat)
        · rw [if_pos c1]
          exact no (.inl (by omega)) _ (Same.refl _)
        rw [if_neg c1]
        have nos : (FhJournals.shapeOk kind state over.length && FhWork.rising over) = false → FhJournals.shapeOk kind state over.length = false ∨ FhWork.rising over = false := fun z => by
          cases q : FhJournals.shapeOk kind state over.length with
          | false => exact .inl rfl
          | true =>
            rw [q, Bool.true_and] at z
            exact .inr z
        refine ⟨kind, rfl, fun H2 s2 => ?_⟩
        by_cases c2 : 1 ≤ kind ∧ kind ≤ 4
        rotate_left
        · rw [decide_eq_false c2] at shp ⊢
          exact .inl ⟨rfl, no (.inr (nos shp.symm)) _ s2⟩
        rw [decide_eq_true c2, Bool.true_and] at shp
        rw [decide_eq_true c2]
        refine .inr ⟨rfl, kind, state, rfl, ?_⟩
        cases c3 : stateOk kind state with
        | false =>
          rw [c3] at shp
          exact .inl ⟨rfl, no (.inr (nos shp.symm)) _ s2⟩
        | true =>
          rw [c3, Bool.true_and] at shp
          refine .inr ⟨rfl, kind, o, over, rfl, s2.seq (SqL.of hO), lo, fun H3 s3 => ?_⟩
          have s3 := s2.trans s3
          cases c4 : overOk kind over with
          | false =>
            rw [c4] at shp
            exact .inl ⟨rfl, no (.inr (nos shp.symm)) _ s3⟩
          | true =>
            rw [c4] at shp
            have z := shp.symm
            rw [Bool.and_eq_true] at z
            exact .inr ⟨rfl, s3, rfl, by omega, z.1, z.2⟩
      · rintro σ H2 ⟨s2, rfl, ns⟩
        rw [if_neg ns] at h
        have hO := s2 _ _ hO
        have hA := s2 _ _ hA
        have hB := s2 _ _ hB
        have st := st.same s2
        have h := h.up s2
        have shp : FhJournals.shapeOk kind state over.length = true := by
          simp only [not_or] at ns
          simpa using ns.2.1
        obtain ⟨p1, p2, p3, p4, p5⟩ := shape_pre shp
        simp [tSeq, tIfS, tTest, tOp, rEq, rNe, rI0, rI, tVar, tC, tRet, tNext, L2.start, scal_ii, scal_nn, scal_in, scal_ni, scal_bb, line1, line2, line3, line7, tAnd, tOr, tNot, CDiv, CMul, tAsg, gName, tAndV, tOrV, tNotV, tCall, tCons, tNil, tCB, rU, tUn, tIf, tB, cx_K, cx_noxK, rIxL, rIxT]
        refine ⟨a, src, rfl, SqL.of hA, by omega, fun H3 q1 s3 R1 => ?_⟩
        refine ⟨b, row, rfl, SqL.of (s3 _ _ hB), by omega, fun H4 q2 s4 R2 => ?_⟩
        refine ⟨kind, q1, a, src, q2, b, row, rfl, R1.same s4, SqL.of ((s3.trans s4) _ _ hA), by omega, R2, SqL.of ((s3.trans s4) _ _ hB), by omega, fun H5 q s5 nq hq => ?_⟩
        simp [tSeq, tIfS, tTest, tOp, rEq, rNe, rI0, rI, tVar, tC, tRet, tNext, L2.start, scal_ii, scal_nn, scal_in, scal_ni, scal_bb, line1, line2, line3, line7, tAnd, tOr, tNot, CDiv, CMul, tAsg, gName, tAndV, tOrV, tNotV, tCall, tCons, tNil, tCB, rU, tUn, tIf, tB, cx_K, cx_noxK, rIxL, rIxT, tLst, rNeI]
        refine fun p hp => ⟨_, SqL.of (same_upd hp _ _ hq), [], SqL.of upd_same, ?_⟩
        have sp := same_upd (o := .lst []) hp
        have sA := ((s3.trans s4).trans s5).trans sp
        rcases rows_spec kind src row with ⟨er, g1, g2, g3⟩ | ⟨sr, g1, g2, g3, g4, g5, g6⟩
        · rw [g1] at h
          refine .inr ⟨g3, h.same st sA ((s3.trans s4).free nq) ?_⟩
          rw [← g2]
          exact sp _ _ hq
        · refine .inl ⟨g2, ?_⟩
          rw [g1] at h
          have R1 := R1.same ((s4.trans s5).trans sp)
          have R2 := R2.same (s5.trans sp)
          have hO := sA _ _ hO
          have hA := sA _ _ hA
          have hB := sA _ _ hB
          have st := st.same sA
          have h : Ans K (upd H5 p (.lst [])) L (putAns x j ⟨stamp, kind, (doc, seg), state, over, sr.1, sr.2⟩) Q := h.up sA
          clear hq sp sA s3 s4 s5
          generalize upd H5 p (.lst []) = H6 at *
          obtain ⟨J, d, vs, c1, c2, hJ, put⟩ := st.get (i := j) (by omega)
          obtain ⟨x1, m1, n1, ts1, ss1, fl1, i1, i2, i3, i4⟩ := R1.ex
          obtain ⟨x2, m2, n2, ts2, ss2, fl2, k1, k2, k3, k4⟩ := R2.ex
          rw [g3] at i4
          rw [g4] at k4
          have hI : JIn K H6 L x j J d := ⟨hJ, put, st⟩
          refine ⟨_, rfl, _, _, _, _, _, rfl, i1, T.c_Reading, T.n_Reading_pieces, rdF_pieces _ _ _ _, m1, rfl, ts1, .inl (SqL.of i2), ?_⟩
          refine ⟨_, rfl, _, _, _, _, _, rfl, k1, T.c_Reading, T.n_Reading_pieces, rdF_pieces _ _ _ _, m2, rfl, ts2, .inl (SqL.of k2), ?_⟩
          refine ⟨_, SqL.of c1, _, atI_nat c2, ?_⟩
          refine ⟨_, rfl, _, rfl, _, rfl, _, rfl, line2, ?_⟩
          intro n9 hn9
          have sX := same_upd (o := .tup [.int (doc : Nat), .int (seg : Nat)]) hn9
          refine ⟨_, rfl, _, rfl, _, rfl, _, rfl, _, rfl, ?_⟩
          intro p dp np ndp ne
          have hcount : ((ts1.length : Nat) : Int) + ((ts2.length : Nat) : Int) = ((FhWork.piecesOf ⟨stamp, kind, (doc, seg), state, over, sr.1, sr.2⟩ : Nat) : Int) := by
            rw [i4.2.1.len, k4.2.1.len]
            exact (Int.natCast_add _ _).symm
          refine make_rec (r := ⟨stamp, kind, (doc, seg), state, over, sr.1, sr.2⟩) upd_same (sX _ _ hO) ?_ ?_ hcount np ndp fun H7 s7 R => ⟨rfl, ?_⟩
          · rw [show Fh.rowText sr.1 = src from text_of_read g3]
            exact sX _ _ hA
          · rw [show Fh.rowText sr.2 = row from text_of_read g4]
            exact sX _ _ hB
          refine ⟨L, J, d, p, x, j, _, rfl, hI.same (sX.trans s7), R, ⟨p1, p2, p3, fun z => ?_, ?_, p4, ?_, p5⟩, h.up (sX.trans s7)⟩
          · have z : kind = 2 ∨ kind = 3 := z
            exact ⟨by rcases g5 with y | y; omega; exact y, by rcases g6 with y | y | y; omega; omega; exact y⟩
          · show (Fh.rowText sr.1).length ≤ 20000 ∧ (Fh.rowText sr.2).length ≤ 20000
            rw [text_of_read g3, text_of_read g4]
            exact ⟨la, lb⟩
          · show Fh.rowRead (Fh.rowText sr.1) = .ok sr.1 ∧ Fh.rowRead (Fh.rowText sr.2) = .ok sr.2
            rw [text_of_read g3, text_of_read g4]
            exact ⟨g3, g4⟩
end
end Fj
set_option linter.all false
namespace Fj
open L2
/-! ## The list of calls -/
theorem six_nat (n d v : Nat) (h : v ≤ n) : HT.sIx n d (some ((v : Nat) : Int)) = v := by
  unfold HT.sIx
  simp only
  rw [if_neg (by omega)]
  show min v n = v
  omega
theorem cut_mid (A X B : List Int) {a b : Int} (ha : a = ((A.length : Nat) : Int)) (hb : b = ((A.length + X.length : Nat) : Int)) : cutV ((A ++ (X ++ B)).map V.int) (some a) (some b) = X.map V.int := by
  subst ha hb
  unfold cutV
  have n : ((A ++ (X ++ B)).map V.int).length = A.length + (X.length + B.length) := by rw [List.length_map, List.length_append, List.length_append]
  rw [six_nat _ _ _ (by rw [n]; omega), six_nat _ _ _ (by rw [n]; omega), ← List.map_drop, ← List.map_take, List.drop_left' rfl, Nat.add_sub_cancel_left, List.take_left' rfl]
theorem at_mid (A B : List Int) (z : Int) {a : Int} (ha : a = ((A.length : Nat) : Int)) : atI ((A ++ (z :: B)).map V.int) a = some (.int z) := by
  subst ha
  refine atI_nat ?_
  rw [List.getElem?_map, List.getElem?_append_right (Nat.le_refl _), Nat.sub_self]
  rfl
def after : FhJournals.State → List FfNeutral.Call → FhJournals.State
  | x, [] => x
  | x, c :: cs => after (FfNeutral.step x c).1 cs
theorem after_snoc (c : FfNeutral.Call) : ∀ (cs : List FfNeutral.Call) (x : FhJournals.State), after x (cs ++ [c]) = (FfNeutral.step (after x cs) c).1
  | [], _ => rfl
  | d :: cs, x => after_snoc c cs _
theorem played_app (ds : List FfNeutral.Call) : ∀ (cs : List FfNeutral.Call) (x : FhJournals.State), PyFlat.played FfNeutral.step x (cs ++ ds) = PyFlat.played FfNeutral.step x cs ++ PyFlat.played FfNeutral.step (after x cs) ds
  | [], _ => rfl
  | d :: cs, x => by
    show _ :: PyFlat.played FfNeutral.step _ (cs ++ ds) = _ :: (PyFlat.played FfNeutral.step _ cs ++ _)
    rw [played_app ds cs]
    rfl
theorem told_app (a b : List (List Int)) : PyFlat.told (a ++ b) = PyFlat.told a ++ PyFlat.told b := by
  unfold PyFlat.told
  rw [List.flatMap_append]
theorem put_app (b : List (List (List Int))) : ∀ a : List (List (List Int)), PyFlat.put (a ++ b) = PyFlat.put a ++ PyFlat.put b
  | [] => rfl
  | c :: a => by
    show PyFlat.put1 c ++ PyFlat.put (a ++ b) = (PyFlat.put1 c ++ PyFlat.put a) ++ PyFlat.put b
    rw [put_app b a, List.append_assoc]
theorem rows_snoc (r : List Int) : ∀ a : List (List Int), PyFlat.putRows (a ++ [r]) = PyFlat.putRows a ++ ((r.length : Int) :: r)
  | [] => by
    show PyFlat.putRow r ++ [] = _
    rw [List.append_nil]
    rfl
  | x :: a => by
    show PyFlat.putRow x ++ PyFlat.putRows (a ++ [r]) = (PyFlat.putRow x ++ PyFlat.putRows a) ++ _
    rw [rows_snoc r a, List.append_assoc]
theorem rows_cut (i : Nat) {rs : List (List Int)} {r : List Int} (h : rs[i]? = some r) : PyFlat.putRows rs = PyFlat.putRows (rs.take i) ++ ((r.length : Int) :: (r ++ PyFlat.putRows (rs.drop (i + 1)))) := by
  induction i generalizing rs with
  | zero =>
    cases rs with
    | nil => cases h
    | cons y rs =>
      have e : y = r := by simpa using h
      subst e
      rfl
  | succ i ih =>
    cases rs with
    | nil => cases h
    | cons y rs =>
      have z := ih (rs := rs) (by simpa using h)
      show PyFlat.putRow y ++ PyFlat.putRows rs = (PyFlat.putRow y ++ PyFlat.putRows (rs.take i)) ++ _
      rw [z, List.append_assoc]
      rfl
theorem whole_id (c : List (List Int)) : PyYqfhfa.whole c = c := by
  unfold PyYqfhfa.whole
  split <;> rfl
end Fj
set_option Elab.async false
set_option linter.all false
set_option maxRecDepth 100000
set_option maxHeartbeats 4000000
namespace Fj
open PySem PySem.Spec PyProof.Rows L2
open Fh (Bytes Piece)
open FhWork (Rec Journal Name)
theorem line6 : 6 ≤ sizeLine := by decide
section
variable {P : Program} {w : World} {K : PySem.W.Frag} {mg : Str → Option Value} {base : Heap}
def spRecord (K : PySem.W.Frag) : Sp := fun vs H Q _ => ∃ (L : Addr) (x : FhJournals.State) (j k which : Nat), vs = [.ref L, .int (j : Nat), .int (k : Nat), .int (which : Nat)] ∧ StAt K H L x ∧ Ans K H L (FhJournals.step x (.record j k which)) Q
theorem sc_record_at : FnScope ["journals", "j", "k", "which", "records", "record", "text", "told"] ["journals", "j", "k", "which"] (defScope s_record_at) := ⟨rfl, rfl, rfl, by decide +kernel, rfl, by decide +kernel, by decide +kernel⟩
theorem ok_record_at (T : Tx K mg) : OkF P w K mg base 6 "record_at" ["journals", "j", "k", "which"] (spRecord K) := by
  refine okf (d := d_record_at) 62 62 (N := ["journals", "j", "k", "which", "records", "record", "text", "told"]) T rfl rfl rfl rfl rfl sc_record_at (fun _ _ _ _ _ _ us hl => match us, hl with | [_, _, _, _], _ => rfl) (fun vs H Q E h => ?_) (fun f cdv A outer s H vs Q E hr h => ?_)
  · obtain ⟨L, x, j, k, which, rfl, st, h⟩ := h
    rfl
  · obtain ⟨L, x, j, k, which, rfl, st, h⟩ := h
    have hu := hu_of hr
    refine ⟨_, (pss_mid (ps_if (PW.pt (pw_or (pt_val (pe_callF (ok_is_no_journal T) (hr.mono (by decide)) (pa_cons (pv 1) pa_nil))) (pw_or1 (pt_cmpR op_gt (pv 3) pe_int (nomark _))))) (pss_one (ps_ret (pe_lst (pa_cons (pe_un un_neg pe_int) pa_nil)))) pss_nil)
      (pss_mid (ps_set (i := 4) sc_record_at.nd rfl (Or.inl rfl) (pe_meth0 (pe_ix ix_list (pv 0) (pv 1) (fun _ _ => rfl)) T.c_Journal T.m_Journal_ordered (ok_Journal_ordered T) (hr.mono (by decide)) (b_Journal_ordered T) .nil pass0))
      (pss_mid (ps_if (pt_cmpR op_ge (pv 2) (pe_callB call_len_seq (by rfl) T.b_len PySem.boot_len (pa_cons (pv 4) pa_nil)) (nomark _)) (pss_one (ps_ret (pe_lst (pa_cons (pe_un un_neg pe_int) pa_nil)))) pss_nil)
      (pss_mid (ps_set (i := 5) sc_record_at.nd rfl (Or.inl rfl) (pe_ix ix_list (pv 4) (pv 2) (fun _ _ => rfl)))
      (pss_mid (ps_set (i := 6) sc_record_at.nd rfl (Or.inl rfl) (pe_ifExp (pt_cmpR op_eq (pv 3) pe_int (nomark _)) (pe_fld (pv 5) rfl) (pe_fld (pv 5) rfl)))
      (pss_cons (ps_set (i := 7) sc_record_at.nd rfl (Or.inl rfl) (pe_lst (pa_cons pe_int (pa_cons (pe_fld (pv 5) rfl) (pa_cons (pe_fld (pv 5) rfl) (pa_cons (pe_ix ix_tup (pe_fld (pv 5) rfl) pe_int (fun _ _ => rfl)) (pa_cons (pe_ix ix_tup (pe_fld (pv 5) rfl) pe_int (fun _ _ => rfl)) (pa_cons (pe_fld (pv 5) rfl) pa_nil))))))))
      (pss_one (ps_ret (pe_op op_cat (pe_op op_cat (pe_op op_cat (pe_op op_cat (pv 7) (pe_lst (pa_cons (pe_callB call_len_seq (by rfl) T.b_len PySem.boot_len (pa_cons (pe_fld (pv 5) rfl) pa_nil)) pa_nil))) (pe_fld (pv 5) rfl)) (pe_lst (pa_cons (pe_callB call_len_seq (by rfl) T.b_len PySem.boot_len (pa_cons (pv 6) pa_nil)) pa_nil))) (pv 6)))))))))), ?_⟩
    have e0 : FhJournals.step x (.record j k which) = (x, if 2 < j ∨ 1 < which then FhJournals.says (-1) else match (x.at_ j)[k]? with
      | none => FhJournals.says (-2)
      | some r => ⟨0, [r.stamp, r.kind, r.name.1, r.name.2, r.state], some r.over, some (Fh.rowText (if which = 0 then r.row else r.source))⟩) := rfl
    rw [e0] at h
    clear e0
    refine ⟨Mid0 H [some (.ref L), some (.int (j : Nat)), some (.int (k : Nat)), some (.int (which : Nat)), none, none, none, none] (¬ (2 < j ∨ 1 < which)), ?_, ?_⟩
    · simp [tSeq, tIfS, tTest, tOp, rEq, rNe, rI0, rI, tVar, tC, tRet, tNext, L2.start, scal_ii, scal_nn, scal_in, scal_ni, scal_bb, line1, line2, line3, line7, tAnd, tOr, tNot, CDiv, CMul, tAsg, gName, tAndV, tOrV, tNotV, tCall, tCons, tNil, tCB, rU, tUn, tIf, tB, cx_K, cx_noxK, rIxL, rIxT, spI1, tLst]
      by_cases c1 : (2 : Int) < (j : Nat)
      · rw [if_pos c1]
        rw [if_pos (.inl (by omega))] at h
        exact h.no st
      rw [if_neg c1]
      by_cases c5 : (1 : Int) < (which : Nat)
      · rw [if_pos c5]
        rw [if_pos (.inr (by omega))] at h
        exact h.no st
      rw [if_neg c5]
      exact ⟨rfl, rfl, by omega⟩
    rintro σ H1 ⟨rfl, rfl, nw⟩
    rw [if_neg nw] at h
    obtain ⟨J, d, vs, c3, c4, hJ, put⟩ := st.get (i := j) (by omega)
    obtain ⟨dx, ho⟩ := hJ.ob
    refine ⟨fun σ H2 => ∃ l ws, σ = [some (.ref L), some (.int (j : Nat)), some (.int (k : Nat)), some (.int (which : Nat)), some (.ref l), none, none, none] ∧ Same H1 H2 ∧ H2 l = some (.lst ws) ∧ All2 (RecV K H2) ws (x.at_ j), ?_, ?_⟩
    · refine ⟨_, rfl, _, rfl, L, vs, _, _, rfl, rfl, SqL.of c3, atI_nat c4, J, dx, _, rfl, ho, rfl, J, d, x.at_ j, rfl, hJ, fun H2 l ws s1 hl al => ?_⟩
      exact ⟨l, ws, rfl, s1, hl, al⟩
    rintro σ H2 ⟨l, ws, rfl, s1, hl, al⟩
    have st := st.same s1
    have h := h.up s1
    refine ⟨fun σ H3 => σ = [some (.ref L), some (.int (j : Nat)), some (.int (k : Nat)), some (.int (which : Nat)), some (.ref l), none, none, none] ∧ H3 = H2 ∧ k < ws.length, ?_, ?_⟩
    · simp [tSeq, tIfS, tTest, tOp, rEq, rNe, rI0, rI, tVar, tC, tRet, tNext, L2.start, scal_ii, scal_nn, scal_in, scal_ni, scal_bb, line1, line2, line3, line7, tAnd, tOr, tNot, CDiv, CMul, tAsg, gName, tAndV, tOrV, tNotV, tCall, tCons, tNil, tCB, rU, tUn, tIf, tB, cx_K, cx_noxK, rIxL, rIxT, tLst]
      refine ⟨ws, .inl (SqL.of hl), ?_⟩
      by_cases ck : ws.length ≤ k
      · rw [if_pos ck]
        rw [show (x.at_ j)[k]? = none from List.getElem?_eq_none (by rw [← al.len]; exact ck)] at h
        exact h.no st
      · rw [if_neg ck]
        omega
    rintro σ H3 ⟨rfl, rfl, ck⟩
    have hk : ws[k]? = some (ws[k]'(by omega)) := List.getElem?_eq_getElem (by omega)
    obtain ⟨r, hr, R⟩ := al.at hk
    rw [hr] at h
    generalize ws[k]'(by omega) = v at *
    obtain ⟨p, rfl, R⟩ := R
    have mj := List.mem_of_getElem? hr
    obtain ⟨y1, y2, y3, y4, y5, y6, y7, y8, y9, y10⟩ := R.ex
    have tx := (hJ.ok.recs r mj).txt
    have ov := (hJ.ok.recs r mj).ov
    refine ⟨fun σ H4 => H4 = H3 ∧ σ = [some (.ref L), some (.int (j : Nat)), some (.int (k : Nat)), some (.int (which : Nat)), some (.ref l), some (.ref p), none, none], ?_, ?_⟩
    · refine ⟨_, rfl, _, rfl, l, ws, _, _, rfl, rfl, SqL.of hl, atI_nat hk, rfl, rfl⟩
    rintro σ H4 ⟨rfl, rfl⟩
    refine ⟨fun σ H5 => ∃ ta, H5 = H4 ∧ σ = [some (.ref L), some (.int (j : Nat)), some (.int (k : Nat)), some (.int (which : Nat)), some (.ref l), some (.ref p), some (.ref ta), none] ∧ H4 ta = some (.lst (bv (Fh.rowText (if which = 0 then r.row else r.source)))), ?_, ?_⟩
    · simp [tSeq, tIfS, tTest, tOp, rEq, rNe, rI0, rI, tVar, tC, tRet, tNext, L2.start, scal_ii, scal_nn, scal_in, scal_ni, scal_bb, line1, line2, line3, line7, tAnd, tOr, tNot, CDiv, CMul, tAsg, gName, tAndV, tOrV, tNotV, tCall, tCons, tNil, tCB, rU, tUn, tIf, tB, cx_K, cx_noxK, rIxL, rIxT, tFld]
      by_cases c : ((which : Nat) : Int) = 1
      · rw [if_pos c]
        refine ⟨_, _, _, y6, T.c_Record, T.n_Record_source, _, recF_source _ _ _ _ _ _ _ _, y4, rfl, ?_⟩
        rw [if_neg (by omega)]
        exact y9
      · rw [if_neg c]
        refine ⟨_, _, _, y6, T.c_Record, T.n_Record_row, _, recF_row _ _ _ _ _ _ _ _, y5, rfl, ?_⟩
        rw [if_pos (by omega)]
        exact y10
    rintro σ H5 ⟨ta, rfl, rfl, hta⟩
    have lt : (Fh.rowText (if which = 0 then r.row else r.source)).length ≤ 20000 := by
      split
      · exact tx.2
      · exact tx.1
    have h : Ans K H5 L (x, ⟨0, [r.stamp, r.kind, r.name.1, r.name.2, r.state], some r.over, some (Fh.rowText (if which = 0 then r.row else r.source))⟩) Q := h
    generalize Fh.rowText (if which = 0 then r.row else r.source) = b at *
    have big : (30000 : Nat) ≤ sizeLine := by decide
    refine ⟨_, rfl, p, _, _, _, _, rfl, y6, T.c_Record, T.n_Record_stamp, recF_stamp _ _ _ _ _ _ _ _, ?_⟩
    refine ⟨_, rfl, p, _, _, _, _, rfl, y6, T.c_Record, T.n_Record_kind, recF_kind _ _ _ _ _ _ _ _, ?_⟩
    refine ⟨_, rfl, p, _, _, _, _, rfl, y6, T.c_Record, T.n_Record_name, recF_name _ _ _ _ _ _ _ _, y2, _, _, _, rfl, rfl, SqT.of y7, atI_nat (j := 0) rfl, ?_⟩
    refine ⟨_, rfl, p, _, _, _, _, rfl, y6, T.c_Record, T.n_Record_name, recF_name _ _ _ _ _ _ _ _, y2, _, _, _, rfl, rfl, SqT.of y7, atI_nat (j := 1) rfl, ?_⟩
    refine ⟨_, rfl, p, _, _, _, _, rfl, y6, T.c_Record, T.n_Record_state, recF_state _ _ _ _ _ _ _ _, line6, fun q0 hq0 => ?_⟩
    have t0 := same_upd (o := .lst [.int 0, .int (r.stamp : Nat), .int (r.kind : Nat), .int (r.name.1 : Nat), .int (r.name.2 : Nat), .int (r.state : Nat)]) hq0
    refine ⟨_, rfl, _, rfl, p, _, _, _, _, rfl, t0 _ _ y6, T.c_Record, T.n_Record_over, recF_over _ _ _ _ _ _ _ _, y3, _, rfl, .inl (SqL.of (t0 _ _ y8)), line1, fun q1 hq1 => ?_⟩
    have t1 := same_upd (o := .lst [.int ((nv r.over).length : Nat)]) hq1
    refine ⟨q0, q1, _, _, rfl, rfl, t1 _ _ upd_same, upd_same, (show 6 + 1 ≤ sizeLine by decide), fun q2 hq2 => ?_⟩
    have t2 := same_upd (o := .lst ([.int 0, .int (r.stamp : Nat), .int (r.kind : Nat), .int (r.name.1 : Nat), .int (r.name.2 : Nat), .int (r.state : Nat)] ++ [.int ((nv r.over).length : Nat)])) hq2
    have t02 := (t0.trans t1).trans t2
    refine ⟨_, rfl, p, _, _, _, _, rfl, t02 _ _ y6, T.c_Record, T.n_Record_over, recF_over _ _ _ _ _ _ _ _, q2, y3, _, _, rfl, rfl, upd_same, t02 _ _ y8, ?_, fun q3 hq3 => ?_⟩
    · rw [nv_len]
      show 7 + r.over.length ≤ sizeLine
      omega
    have t3 := t02.trans (same_upd (o := .lst (([.int 0, .int (r.stamp : Nat), .int (r.kind : Nat), .int (r.name.1 : Nat), .int (r.name.2 : Nat), .int (r.state : Nat)] ++ [.int ((nv r.over).length : Nat)]) ++ nv r.over)) hq3)
    refine ⟨_, rfl, ta, _, rfl, .inl (SqL.of (t3 _ _ hta)), line1, fun q4 hq4 => ?_⟩
    have t4 := same_upd (o := .lst [.int ((bv b).length : Nat)]) hq4
    refine ⟨q3, q4, _, _, rfl, rfl, t4 _ _ upd_same, upd_same, ?_, fun q5 hq5 => ?_⟩
    · rw [List.length_append, nv_len]
      show 7 + r.over.length + 1 ≤ sizeLine
      omega
    have t5 := (t3.trans t4).trans (same_upd (o := .lst ((([.int 0, .int (r.stamp : Nat), .int (r.kind : Nat), .int (r.name.1 : Nat), .int (r.name.2 : Nat), .int (r.state : Nat)] ++ [.int ((nv r.over).length : Nat)]) ++ nv r.over) ++ [.int ((bv b).length : Nat)])) hq5)
    refine ⟨_, rfl, q5, ta, _, _, rfl, rfl, upd_same, t5 _ _ hta, ?_, fun q6 hq6 => ?_⟩
    · rw [List.length_append, List.length_append, nv_len, bv_len]
      show 7 + r.over.length + 1 + b.length ≤ sizeLine
      omega
    refine h.same st (t5.trans (same_upd hq6)) (t5.free hq6) ?_
    rw [upd_same, bv_len, nv_len]
    have eo : nv r.over = (FfNeutral.ints r.over).map V.int := rfl
    have eb : bv b = (FfNeutral.byteNums b).map V.int := (bv_nums b).symm
    rw [eo, eb]
    show _ = some (HO.lst ((0 :: (FfNeutral.ints [r.stamp, r.kind, r.name.1, r.name.2, r.state] ++ (((r.over.length : Nat) : Int) :: (FfNeutral.ints r.over ++ (((b.length : Nat) : Int) :: FfNeutral.byteNums b))))).map V.int))
    simp [FfNeutral.ints]
end
end Fj
set_option Elab.async false
set_option linter.all false
set_option maxRecDepth 100000
set_option maxHeartbeats 4000000
namespace Fj
open PySem PySem.Spec PyProof.Rows L2
open Fh (Bytes Piece)
open FhWork (Rec Journal Name)
/-- those of the names with heads are those that are worked in -/
theorem worked_perm {j : Journal} (h : JOk j) {ns : List Name} (nd : ns.Nodup) (mem : ∀ n, n ∈ ns ↔ ∃ r ∈ j, r.name = n) (doc : Nat) :
    ((ns.filter fun n => n.1 == doc).filter fun n => !(FhWork.heads j n).isEmpty).Perm (FhWork.workedIn j doc) := by
  unfold FhWork.workedIn
  refine (List.perm_ext_iff_of_nodup ((nd.filter _).filter _) ((rise_nodup (names_rise _)).filter _)).mpr fun n => ?_
  rw [List.mem_filter, List.mem_filter, List.mem_filter, mem, names_mem]
  have hw : FhWork.worksOf j n ≠ [] ↔ ∃ r ∈ j.filter FhWork.Rec.works, r.name = n := by
    unfold FhWork.worksOf
    constructor
    · intro z
      obtain ⟨r, hr⟩ := List.exists_mem_of_ne_nil _ z
      rw [List.mem_filter, Bool.and_eq_true] at hr
      exact ⟨r, List.mem_filter.mpr ⟨hr.1, hr.2.1⟩, eq_of_beq hr.2.2⟩
    · rintro ⟨r, hr, e⟩ z
      rw [List.mem_filter] at hr
      have : r ∈ j.filter fun r => r.works && r.name == n := List.mem_filter.mpr ⟨hr.1, by rw [hr.2, e]; simp⟩
      rw [z] at this
      cases this
  constructor
  · rintro ⟨⟨_, c⟩, e⟩
    refine ⟨hw.mp (works_some.mp fun z => ?_).1, c⟩
    rw [z] at e
    cases e
  · rintro ⟨e, c⟩
    have z := heads_some h (hw.mpr e)
    obtain ⟨r, hr, en⟩ := e
    refine ⟨⟨⟨r, (List.mem_filter.mp hr).1, en⟩, c⟩, ?_⟩
    cases q : FhWork.heads j n with
    | nil => exact absurd q z
    | cons _ _ => rfl
theorem sents_at {ns : List (Name × Addr)} {i : Nat} {k : List Key} {v : V} (h : (sents ns)[i]? = some (k, v)) : ∃ e, ns[i]? = some e ∧ k = nk e.1 ∧ v = .ref e.2 := by
  unfold sents at h
  rw [List.getElem?_map] at h
  cases q : ns[i]? with
  | none => rw [q] at h; cases h
  | some e =>
    rw [q] at h
    injection h with h
    injection h with h1 h2
    exact ⟨e, rfl, h1.symm, h2.symm⟩
theorem del_self {H : Hp} {t : Addr} : del H t t = none := if_pos rfl
section
variable {P : Program} {w : World} {K : PySem.W.Frag} {mg : Str → Option Value} {base : Heap}
def spHeadsIn (K : PySem.W.Frag) : Sp := fun vs H Q _ => ∃ (J d : Addr) (j : Journal) (doc : Nat), vs = [.ref J, .int (doc : Nat)] ∧ JAt K H J d j ∧ ∀ H' l ws ns, Same H H' → H' l = some (.lst ws) → All2 (HdsV K H' j) ws ns → ns.Perm (FhWork.workedIn j doc) → Q (.ref l) H'
theorem sc_heads_in_document : FnScope ["journal", "doc", "segments", "found", "name", "heads"] ["journal", "doc"] (defScope s_heads_in_document) := ⟨rfl, rfl, rfl, by decide +kernel, rfl, by decide +kernel, by decide +kernel⟩
theorem ok_heads_in_document (T : Tx K mg) : OkF P w K mg base 4 "heads_in_document" ["journal", "doc"] (spHeadsIn K) := by
  refine okf (d := d_heads_in_document) 59 59 (N := ["journal", "doc", "segments", "found", "name", "heads"]) T rfl rfl rfl rfl rfl sc_heads_in_document (fun _ _ _ _ _ _ us hl => match us, hl with | [_, _], _ => rfl) (fun vs H Q E h => ?_) (fun f cdv A outer s H vs Q E hr h => ?_)
  · obtain ⟨J, d, j, doc, rfl, hJ, h⟩ := h
    rfl
  · obtain ⟨J, d, j, doc, rfl, hJ, h⟩ := h
    have hu := hu_of hr
    refine ⟨_, (pss_cons (ps_set (i := 2) sc_heads_in_document.nd rfl (Or.inr rfl) (pe_callF (ok_records_by_segment T) (hr.mono (by decide)) (pa_cons (pv 0) pa_nil)))
      (pss_cons (ps_lock (ps_setLc (i := 3) (own := [("name", 4)]) (g := gName 4) (tt := (tTest (tOp rEq (tOp (rIxT K) (tVar 4) (tC (V.int 0))) (tVar 1)))) (te := (tLockE (tCall (spRecs K headsM) [] E0 (tCons (tDGet (tVar 2) (tVar 4)) tNil)))) (by rfl) sc_heads_in_document.nd rfl rfl (by rfl) (pi_keys (pv 2)) (blkOk_by (own := [("name", 4)]) (N := ["journal", "doc", "segments", "found", "name", "heads"]) (sc := (defScope s_heads_in_document)) (by decide +kernel)) (fun _ _ _ _ _ => pg_name (i := 4) sc_heads_in_document.nd rfl (Or.inl rfl)) (fun _ _ _ _ _ => by exact (pts_one (pt_cmpR op_eq (pe_ix ix_tup (pv 4) pe_int (fun _ _ => rfl)) (pv 1) (nomark _)))) (fun _ _ _ _ _ => by exact ((pe_lockF (ok_heads_of T) (hr.mono (by decide)) (pa_cons (pe_dget hu (pv 2) (pv 4) (fun _ _ => rfl)) pa_nil))))))
      (pss_one (ps_ret (pe_lc (own := [("heads", 5)]) (g := gName 5) (tt := (tTest (tOp (rNeNil K) (tVar 5) (tLst tNil)))) (te := (tVar 5)) (by rfl) sc_heads_in_document.nd (pi_list (pv 3)) (blkOk_by (own := [("heads", 5)]) (N := ["journal", "doc", "segments", "found", "name", "heads"]) (sc := (defScope s_heads_in_document)) (by decide +kernel)) (fun _ _ _ _ _ => pg_name (i := 5) sc_heads_in_document.nd rfl (Or.inl rfl)) (fun _ _ _ _ _ => by exact (pts_one (pt_cmpR (op_neNil hr.units0) (pv 5) (pe_lst pa_nil) (nomark _)))) (fun _ _ _ _ _ => by exact ((pv 5)))))))), ?_⟩
    have few := hJ.ok.few
    refine ⟨_, rfl, J, d, j, rfl, hJ, fun H1 e ns s1 S => ?_⟩
    have nf := names_few S.nd S.back
    refine ⟨e, _, S.dc, trivial, fun od => ?_⟩
    have hdF : upd H1 e (.frz od (.dT (sents ns))) e = some (.frz od (.dT (sents ns))) := upd_same
    have kF : ∀ b o, H1 b = some o → b ≠ e → upd H1 e (.frz od (.dT (sents ns))) b = some o := fun b o z c => by rw [upd_ne c]; exact z
    have kD : KeptD H1 (upd H1 e (.frz od (.dT (sents ns)))) e := kF
    generalize upd H1 e (.frz od (.dT (sents ns))) = HF at *
    refine ⟨_, rfl, e, od, rfl, .inr ⟨_, hdF, fun D hD => lc_it (walk_keysT (d := e) (o := od) (kvs := sents ns)) (fun i H2 => ∃ us, H2 D = some (.lst us) ∧ Same HF (del H2 D) ∧ All2 (HdsV K (del H2 D) j) us (((ns.take i).map (·.1)).filter fun n => n.1 == doc)) ⟨[], upd_same, ?_, .nil⟩ (fun i H2 _ ⟨us, _, s2, _⟩ => del_sub _ _ (s2 _ _ hdF)) ?_ ?_⟩⟩
    · rw [del_upd]
      exact del_up (Same.refl _) hD
    · rintro i v H0 H2 hi ⟨us, hD2, s2, al⟩ ⟨rfl, k, v', q, hk, rfl, hq⟩
      obtain ⟨en, hen, rfl, rfl⟩ := sents_at hk
      have he := List.mem_of_getElem? hen
      have hq2 : H2 q = some (.tup [.int (en.1.1 : Nat), .int (en.1.2 : Nat)]) := hq
      refine ⟨rfl, ?_⟩
      refine ⟨_, rfl, q, _, _, _, rfl, rfl, SqT.of hq2, atI_nat (j := 0) rfl, _, rfl, rfl, ?_⟩
      have step : ((ns.take (i + 1)).map (·.1)).filter (fun n => n.1 == doc) = ((ns.take i).map (·.1)).filter (fun n => n.1 == doc) ++ (if (en.1.1 == doc) = true then [en.1] else []) := by
        rw [take_snoc hen, List.map_append, List.filter_append, List.map_cons, List.map_nil, List.filter_cons]
        rfl
      refine ⟨_, rfl, ?_⟩
      dsimp only
      by_cases c : en.1.1 = doc
      · rw [if_pos (decide_eq_true (by rw [c]))]
        refine ⟨D, _, hD2, trivial, fun oD => ?_⟩
        have sL : Same (del H2 D) (upd H2 D (.frz oD (.lst us))) := del_back
        have hDL : upd H2 D (.frz oD (.lst us)) D = some (.frz oD (.lst us)) := upd_same
        have qD : q ≠ D := ne_of hq2 hD2 (by intro z; cases z)
        have hqL : upd H2 D (.frz oD (.lst us)) q = some (.tup ((nk en.1).map kV)) := by rw [upd_ne qD]; exact hq
        generalize upd H2 D (.frz oD (.lst us)) = HL at *
        have sFL := s2.trans sL
        obtain ⟨ws, g1, g2⟩ := S.ls en he
        have n1 : en.2 ≠ e := ne_of g1 S.dc (by intro z; cases z)
        refine ⟨_, rfl, _, rfl, e, .ref en.2, rfl, ?_, en.2, ws, segOf j en.1, rfl, SqL.of (sFL _ _ (kF _ _ g1 n1)), ?_, ?_, ?_, fun H3 l3 w3 s3 hl3 al3 => ?_⟩
        · refine .inr ⟨_, nk en.1, q, .inr ⟨od, sFL _ _ hdF⟩, rfl, hqL, ?_⟩
          rw [sents_some (n := en.1) (l := en.2) S.nd he]
        · exact g2.mono fun _ _ z => (RecV.keptT kD S.dc z).same sFL
        · exact Nat.le_trans (List.length_filter_le _ _) few
        · exact fun r hr => (hJ.ok.recs r (List.mem_filter.mp hr).1).ov
        have hD3 : H3 D = some (.frz oD (.lst us)) := s3 _ _ hDL
        refine ⟨hD3, us, upd_same, ?_, us ++ [.ref l3], upd_same, ?_, ?_⟩
        · have z := al.len
          have z2 := List.length_filter_le (fun n : Name => n.1 == doc) ((ns.take i).map (·.1))
          rw [List.length_map, List.length_take] at z2
          exact Nat.lt_of_le_of_lt (show us.length ≤ 256 by omega) (by decide)
        · rw [upd_upd, del_upd]
          exact del_up (sFL.trans s3) hD
        · rw [upd_upd, del_upd, step, if_pos (by simp [c])]
          have sd : Same (del H2 D) (del H3 D) := del_up (sL.trans s3) del_self
          refine (al.mono fun _ _ z => HdsV.same sd z).snoc ?_
          refine HdsV.del hD3 ⟨l3, w3, rfl, hl3, ?_⟩
          rw [heads_seg hJ.ok]
          exact al3
      · rw [if_neg (fun z => by have z := of_decide_eq_true z; injection z with z; exact c (Int.ofNat.inj z))]
        refine ⟨us, hD2, s2, ?_⟩
        rw [step, if_neg (by simp [c]), List.append_nil]
        exact al
    · rintro H2 ⟨us, hD2, s2, al⟩
      have ln : (sents ns).length = ns.length := by unfold sents; rw [List.length_map]
      rw [ln, List.take_length] at al
      have he2 : H2 e = some (.frz od (.dT (sents ns))) := del_sub _ _ (s2 _ _ hdF)
      refine ⟨he2, ?_⟩
      have De : D ≠ e := ne_of hD2 he2 (by intro z; cases z)
      have al := al.mono fun _ _ z => HdsV.same (del_back (o := .dT (sents ns))) (HdsV.del he2 (HdsV.same del_sub z))
      have hD3 : upd H2 e (.dT (sents ns)) D = some (.lst us) := by rw [upd_ne De]; exact hD2
      have s3 : Same H1 (upd H2 e (.dT (sents ns))) := fun b o z => by
        by_cases c : b = e
        · subst c
          rw [upd_same, ← S.dc, z]
        · rw [upd_ne c]
          exact del_sub _ _ (s2 _ _ (kF _ _ z c))
      generalize upd H2 e (.dT (sents ns)) = H3 at *
      have nl : us.length ≤ 256 := by
        have z := al.len
        have z2 := List.length_filter_le (fun n : Name => n.1 == doc) (ns.map (·.1))
        rw [List.length_map] at z2
        omega
      have perm := worked_perm hJ.ok (ns := ns.map (·.1)) S.nd (fun n => ⟨S.back n, fun ⟨r, h1, h2⟩ => by rw [← h2]; exact S.mem r h1⟩) doc
      generalize (ns.map (·.1)).filter (fun n => n.1 == doc) = ms at *
      refine ⟨_, rfl, D, rfl, ⟨_, SqL.of hD3⟩, fun D2 hE => lc_list (K := K) (a := D) (xs := us) (fun i H4 => ∃ us2, H4 D2 = some (.lst us2) ∧ Same H3 H4 ∧ All2 (HdsV K H3 j) us2 ((ms.take i).filter fun n => !(FhWork.heads j n).isEmpty)) ⟨[], upd_same, same_upd hE, .nil⟩ (fun i H4 _ ⟨_, _, s, _⟩ => s.seq (SqL.of hD3)) ?_ ?_⟩
      · rintro i v H4 hi ⟨us2, g2, s4, al2⟩
        obtain ⟨n, hn, l, ws, rfl, hl, alw⟩ := al.at hi
        refine ⟨rfl, ?_⟩
        refine ⟨_, rfl, Nat.zero_le _, fun p0 hp0 => ?_⟩
        have s5 := same_upd (o := .lst []) hp0
        refine ⟨l, p0, ws, rfl, rfl, s5.seq (s4.seq (SqL.of hl)), SqL.of upd_same, ?_⟩
        have g5 := s5 _ _ g2
        generalize upd H4 p0 (.lst []) = H5 at *
        have eh : (decide (ws = []) = true) ↔ FhWork.heads j n = [] := by
          have z := alw.len
          rw [decide_eq_true_eq]
          constructor
          · intro q
            rw [q] at z
            exact List.eq_nil_of_length_eq_zero z.symm
          · intro q
            rw [q] at z
            exact List.eq_nil_of_length_eq_zero z
        refine ⟨_, rfl, ?_⟩
        dsimp only
        by_cases c : FhWork.heads j n = []
        · rw [if_neg (by rw [eh.mpr c]; decide)]
          refine ⟨us2, g5, s4.trans s5, ?_⟩
          rw [filter_snoc _ hn, if_neg (by rw [c]; decide), List.append_nil]
          exact al2
        · have nc : decide (ws = []) = false := by
            cases q : decide (ws = []) with
            | false => rfl
            | true => exact absurd (eh.mp q) c
          rw [if_pos (by rw [nc]; rfl)]
          refine ⟨_, rfl, us2, g5, ?_, us2 ++ [.ref l], upd_same, ?_, ?_⟩
          · have z := al2.len
            have z2 := List.length_filter_le (fun n : Name => !(FhWork.heads j n).isEmpty) (ms.take i)
            rw [List.length_take] at z2
            have z3 := al.len
            exact Nat.lt_of_le_of_lt (show us2.length ≤ 256 by omega) (by decide)
          · intro b o z
            rw [upd_ne (ne_of_none z hE)]
            exact s5 _ _ (s4 _ _ z)
          · rw [filter_snoc _ hn, if_pos (by cases q : FhWork.heads j n with
              | nil => exact absurd q c
              | cons _ _ => rfl)]
            exact al2.snoc ⟨l, ws, rfl, hl, alw⟩
      · rintro H4 ⟨us2, g2, s4, al2⟩
        rw [al.len, List.take_length] at al2
        exact h _ D2 us2 _ ((s1.trans s3).trans s4) g2 (al2.mono fun _ _ z => HdsV.same s4 z) perm
end
end Fj
set_option Elab.async false
set_option linter.all false
set_option maxRecDepth 100000
set_option maxHeartbeats 4000000
namespace Fj
open PySem PySem.Spec PyProof.Rows L2
open Fh (Bytes Piece)
open FhWork (Rec Journal Name)
/-- how many of them are in each state -/
def LB (c : Nat → Nat) : List V := [.int (c 0 : Nat), .int (c 1 : Nat), .int (c 2 : Nat), .int (c 3 : Nat), .int (c 4 : Nat)]
theorem five {k : Nat} (h : k ≤ 4) : k = 0 ∨ k = 1 ∨ k = 2 ∨ k = 3 ∨ k = 4 := by omega
theorem LB_at (c : Nat → Nat) {k : Nat} (h : k ≤ 4) : (LB c)[k]? = some (.int (c k : Nat)) := by
  rcases five h with rfl | rfl | rfl | rfl | rfl <;> rfl
theorem LB_set (c : Nat → Nat) {k : Nat} (h : k ≤ 4) : (LB c).set k (.int ((c k : Nat) + 1)) = LB fun s => c s + (if k = s then 1 else 0) := by
  rcases five h with rfl | rfl | rfl | rfl | rfl <;> rfl
theorem LB_ix (c : Nat → Nat) {k : Nat} (h : k ≤ 4) : ixN (LB c).length ((k : Nat) : Int) = some k := by
  rcases five h with rfl | rfl | rfl | rfl | rfl <;> rfl
def cntS (j : Journal) (ns : List Name) (s : Nat) : Nat := (ns.filter fun n => FhWork.stateOf j n == s).length
def cntC (j : Journal) (ns : List Name) : Nat := (ns.filter fun n => FhWork.inConflict j n).length
theorem cntS_snoc (j : Journal) {ns : List Name} {i : Nat} {n : Name} (h : ns[i]? = some n) : cntS j (ns.take (i + 1)) = fun s => cntS j (ns.take i) s + (if FhWork.stateOf j n = s then 1 else 0) := by
  funext s
  unfold cntS
  rw [filter_snoc _ h, List.length_append]
  by_cases c : FhWork.stateOf j n = s
  · rw [if_pos (by simp [c]), if_pos c]
    rfl
  · rw [if_neg (by simp [c]), if_neg c]
    rfl
theorem cntC_snoc (j : Journal) {ns : List Name} {i : Nat} {n : Name} (h : ns[i]? = some n) : cntC j (ns.take (i + 1)) = cntC j (ns.take i) + (if FhWork.inConflict j n = true then 1 else 0) := by
  unfold cntC
  rw [filter_snoc _ h, List.length_append]
  by_cases c : FhWork.inConflict j n = true
  · rw [if_pos c, if_pos c]
    rfl
  · rw [if_neg c, if_neg c]
    rfl
theorem state_le {j : Journal} (h : JOk j) (n : Name) : FhWork.stateOf j n ≤ 4 := by
  unfold FhWork.stateOf
  cases q : FhWork.standing j n with
  | none => exact Nat.zero_le _
  | some r => exact (h.recs r (standing_mem h q).2.1).st
theorem cnt_sum {j : Journal} (h : JOk j) : ∀ ns : List Name, cntS j ns 0 + cntS j ns 1 + cntS j ns 2 + cntS j ns 3 + cntS j ns 4 = ns.length
  | [] => rfl
  | n :: ns => by
    have ih := cnt_sum h ns
    have e : ∀ s, cntS j (n :: ns) s = cntS j ns s + (if FhWork.stateOf j n = s then 1 else 0) := fun s => by
      unfold cntS
      rw [List.filter_cons]
      by_cases c : FhWork.stateOf j n = s
      · rw [if_pos (by simp [c]), if_pos c]
        rfl
      · rw [if_neg (by simp [c]), if_neg c]
        rfl
    rw [e, e, e, e, e, List.length_cons]
    rcases five (state_le h n) with z | z | z | z | z <;> rw [z] <;> simp <;> omega
theorem cntS_perm {j : Journal} {ns ms : List Name} (p : ns.Perm ms) (s : Nat) : cntS j ns s = cntS j ms s := (p.filter _).length_eq
theorem cntC_perm {j : Journal} {ns ms : List Name} (p : ns.Perm ms) : cntC j ns = cntC j ms := (p.filter _).length_eq
theorem tally_is (j : Journal) (doc : Nat) : FhWork.tally j doc = [cntS j (FhWork.workedIn j doc) 0, cntS j (FhWork.workedIn j doc) 1, cntS j (FhWork.workedIn j doc) 2, cntS j (FhWork.workedIn j doc) 3, cntS j (FhWork.workedIn j doc) 4, cntC j (FhWork.workedIn j doc)] := rfl
section
variable {P : Program} {w : World} {K : PySem.W.Frag} {mg : Str → Option Value} {base : Heap}
def spTally (K : PySem.W.Frag) : Sp := fun vs H Q _ => ∃ (L : Addr) (x : FhJournals.State) (j doc : Nat), vs = [.ref L, .int (j : Nat), .int (doc : Nat)] ∧ StAt K H L x ∧ Ans K H L (FhJournals.step x (.tally j doc)) Q
theorem sc_tally : FnScope ["journals", "j", "doc", "by_state", "conflicts", "heads", "state"] ["journals", "j", "doc"] (defScope s_tally) := ⟨rfl, rfl, rfl, by decide +kernel, rfl, by decide +kernel, by decide +kernel⟩
theorem ok_tally (T : Tx K mg) : OkF P w K mg base 6 "tally" ["journals", "j", "doc"] (spTally K) := by
  refine okf (d := d_tally) 58 58 (N := ["journals", "j", "doc", "by_state", "conflicts", "heads", "state"]) T rfl rfl rfl rfl rfl sc_tally (fun _ _ _ _ _ _ us hl => match us, hl with | [_, _, _], _ => rfl) (fun vs H Q E h => ?_) (fun f cdv A outer s H vs Q E hr h => ?_)
  · obtain ⟨L, x, j, doc, rfl, st, h⟩ := h
    rfl
  · obtain ⟨L, x, j, doc, rfl, st, h⟩ := h
    have hu := hu_of hr
    refine ⟨_, (pss_cons (ps_if (pt_val (pe_callF (ok_document_is_beyond T) (hr.mono (by decide)) (pa_cons (pv 2) pa_nil))) (pss_one (ps_ret (pe_lst (pa_cons (pe_un un_neg pe_int) pa_nil)))) pss_nil)
      (pss_cons (ps_if (pt_val (pe_callF (ok_is_no_journal T) (hr.mono (by decide)) (pa_cons (pv 1) pa_nil))) (pss_one (ps_ret (pe_lst (pa_cons (pe_un un_neg pe_int) pa_nil)))) pss_nil)
      (pss_cons (ps_set (i := 3) sc_tally.nd rfl (Or.inl rfl) (pe_lst (pa_cons pe_int (pa_cons pe_int (pa_cons pe_int (pa_cons pe_int (pa_cons pe_int pa_nil)))))))
      (pss_cons (ps_set (i := 4) sc_tally.nd rfl (Or.inl rfl) pe_int)
      (pss_cons (ps_for PassesOwn.never rfl (pi_list (pe_lockF (ok_heads_in_document T) (hr.mono (by decide)) (pa_cons (pe_ix ix_list (pv 0) (pv 1) (fun _ _ => rfl)) (pa_cons (pv 2) pa_nil)))) (pg_name (i := 5) sc_tally.nd rfl (Or.inl rfl))
        (pss_cons (ps_set (i := 6) sc_tally.nd rfl (Or.inl rfl) (pe_callF (ok_standing_state T) (hr.mono (by decide)) (pa_cons (pv 5) pa_nil)))
      (pss_cons (ps_asg (pe_op op_add (pe_ix ix_list (pv 3) (pv 6) (fun _ _ => rfl)) pe_int) (pg_sub (pv 3) (pv 6) set_list))
      (pss_one (ps_if (pt_val (pe_callF (ok_in_conflict T) (hr.mono (by decide)) (pa_cons (pv 5) pa_nil))) (pss_one (ps_set (i := 4) sc_tally.nd rfl (Or.inl rfl) (pe_op op_add (pv 4) pe_int))) pss_nil)))))
      (pss_one (ps_ret (pe_op op_cat (pe_op op_cat (pe_lst (pa_cons (pe_callB (cr_sum rfl) (by rfl) T.b_sum (by decide +kernel) (pa_cons (pv 3) pa_nil)) pa_nil)) (pv 3)) (pe_lst (pa_cons (pv 4) pa_nil)))))))))), ?_⟩
    have e0 : FhJournals.step x (.tally j doc) = (x, if 16 ≤ doc then FhJournals.says (-6) else if 2 < j then FhJournals.says (-1) else ⟨((FhWork.workedIn (x.at_ j) doc).length : Int), FhWork.tally (x.at_ j) doc, none, none⟩) := rfl
    rw [e0] at h
    clear e0
    simp [tSeq, tIfS, tTest, tOp, rEq, rNe, rI0, rI, tVar, tC, tRet, tNext, L2.start, scal_ii, scal_nn, scal_in, scal_ni, scal_bb, line1, line2, line3, line7, tAnd, tOr, tNot, CDiv, CMul, tAsg, gName, tAndV, tOrV, tNotV, tCall, tCons, tNil, tCB, rU, tUn, tIf, tB, cx_K, cx_noxK, rIxL, rIxT, spI1, tLst]
    by_cases c2 : (15 : Int) < (doc : Nat)
    · rw [if_pos c2]
      rw [if_pos (by omega)] at h
      exact h.no st
    rw [if_neg c2]
    rw [if_neg (by omega)] at h
    by_cases c1 : (2 : Int) < (j : Nat)
    · rw [if_pos c1]
      rw [if_pos (by omega)] at h
      exact h.no st
    rw [if_neg c1]
    rw [if_neg (by omega)] at h
    obtain ⟨J, d, vs, c3, c4, hJ, put⟩ := st.get (i := j) (by omega)
    refine ⟨by decide, fun B hB => ?_⟩
    have z0 : ([.int 0, .int 0, .int 0, .int 0, .int 0] : List V) = LB fun _ => 0 := rfl
    rw [z0]
    clear z0
    refine ⟨B, _, upd_same, trivial, fun oB => ?_⟩
    have sL : Same H (upd (upd H B (.lst (LB fun _ => 0))) B (.frz oB (.lst (LB fun _ => 0)))) := fun b o z => by
      rw [upd_ne (ne_of_none z hB), upd_ne (ne_of_none z hB)]
      exact z
    have hBL : upd (upd H B (.lst (LB fun _ => 0))) B (.frz oB (.lst (LB fun _ => 0))) B = some (.frz oB (.lst (LB fun _ => 0))) := upd_same
    generalize upd (upd H B (.lst (LB fun _ => 0))) B (.frz oB (.lst (LB fun _ => 0))) = HL at *
    refine ⟨_, rfl, _, rfl, L, vs, _, _, rfl, rfl, SqL.of (sL _ _ c3), atI_nat c4, _, rfl, J, d, x.at_ j, doc, rfl, hJ.same sL, fun H2 l ws ns s2 hl al perm => ?_⟩
    have hB2 := s2 _ _ hBL
    refine ⟨hB2, ?_⟩
    have ok := hJ.ok
    have sG : Same H (del H2 B) := del_up (sL.trans s2) hB
    have hlG : del H2 B l = some (.lst ws) := by rw [del_ne (ne_of hl hB2 (by intro z; cases z))]; exact hl
    have alG := al.mono fun _ _ z => HdsV.del hB2 z
    have stG := st.same sG
    have h := h.up sG
    have eU : ∀ o, Same (del H2 B) (upd H2 B o) := fun o => del_back
    clear al hl
    refine ⟨l, rfl, ⟨ws, SqL.of (eU _ _ _ hlG)⟩, for_list (K := K) (a := l) (xs := ws) (fun i σ H4 => ∃ u5 u6 : Option V, σ = [some (.ref L), some (.int (j : Nat)), some (.int (doc : Nat)), some (.ref B), some (.int (cntC (x.at_ j) (ns.take i) : Nat)), u5, u6] ∧ H4 = upd H2 B (.lst (LB (cntS (x.at_ j) (ns.take i)))))
      ⟨none, none, rfl, rfl⟩ (fun i σ H4 _ ⟨_, _, _, e⟩ => by rw [e]; exact SqL.of (eU _ _ _ hlG)) ?_ ?_⟩
    · rintro i v σ H4 hi ⟨u5, u6, rfl, rfl⟩
      obtain ⟨n, hn, l', ws', rfl, hl', alw⟩ := alG.at hi
      have sU := eU (.lst (LB (cntS (x.at_ j) (ns.take i))))
      have s4 := state_le ok n
      simp [tSeq, tIfS, tTest, tOp, rEq, rNe, rI0, rI, tVar, tC, tRet, tNext, L2.start, scal_ii, scal_nn, scal_in, scal_ni, scal_bb, line1, line2, line3, line7, tAnd, tOr, tNot, CDiv, CMul, tAsg, gName, tAndV, tOrV, tNotV, tCall, tCons, tNil, tCB, rU, tUn, tIf, tB, cx_K, cx_noxK, rIxL, rIxT, gSub, rSetL]
      refine ⟨l', ws', _, rfl, SqL.of (sU _ _ hl'), alw.mono (fun _ _ z => RecV.same sU z), ?_⟩
      have es : stateM (FhWork.heads (x.at_ j) n) = FhWork.stateOf (x.at_ j) n := rfl
      rw [es]
      have fin : upd (upd H2 B (.lst (LB (cntS (x.at_ j) (ns.take i))))) B (.lst ((LB (cntS (x.at_ j) (ns.take i))).set (FhWork.stateOf (x.at_ j) n) (.int ((cntS (x.at_ j) (ns.take i) (FhWork.stateOf (x.at_ j) n) : Nat) + 1)))) = upd H2 B (.lst (LB (cntS (x.at_ j) (ns.take (i + 1))))) := by
        rw [upd_upd, LB_set _ s4, cntS_snoc _ hn]
      refine ⟨_, _, rfl, SqL.of upd_same, _, atI_nat (LB_at _ s4), _, rfl, _, _, rfl, upd_same, _, LB_ix _ s4, ws', ?_, ?_⟩
      · rw [fin]
        exact SqL.of (eU _ _ _ hl')
      · rw [fin, cntC_snoc _ hn]
        have el : FhWork.inConflict (x.at_ j) n = decide (2 ≤ ws'.length) := by
          unfold FhWork.inConflict
          rw [alw.len]
        rw [el]
        by_cases c : 2 ≤ ws'.length
        · rw [if_pos c, if_pos (decide_eq_true c)]
          exact ⟨by omega, rfl⟩
        · rw [if_neg c, if_neg (by rw [decide_eq_false c]; decide)]
          exact ⟨rfl, rfl⟩
    · rintro σ H4 ⟨u5, u6, rfl, rfl⟩
      rw [alG.len, List.take_length]
      have sU := eU (.lst (LB (cntS (x.at_ j) ns)))
      have hB4 : upd H2 B (.lst (LB (cntS (x.at_ j) ns))) B = some (.lst (LB (cntS (x.at_ j) ns))) := upd_same
      have h := h.up sU
      have stU := stG.same sU
      generalize upd H2 B (.lst (LB (cntS (x.at_ j) ns))) = H5 at *
      refine ⟨_, rfl, B, [((cntS (x.at_ j) ns 0 : Nat) : Int), ((cntS (x.at_ j) ns 1 : Nat) : Int), ((cntS (x.at_ j) ns 2 : Nat) : Int), ((cntS (x.at_ j) ns 3 : Nat) : Int), ((cntS (x.at_ j) ns 4 : Nat) : Int)], rfl, SqL.of hB4, line1, fun q1 hq1 => ?_⟩
      generalize hs : List.sum [((cntS (x.at_ j) ns 0 : Nat) : Int), ((cntS (x.at_ j) ns 1 : Nat) : Int), ((cntS (x.at_ j) ns 2 : Nat) : Int), ((cntS (x.at_ j) ns 3 : Nat) : Int), ((cntS (x.at_ j) ns 4 : Nat) : Int)] = sm
      have t1 := same_upd (o := .lst [.int sm]) hq1
      refine ⟨_, rfl, q1, B, _, _, rfl, rfl, upd_same, t1 _ _ hB4, (show 1 + 5 ≤ sizeLine by decide), fun q2 hq2 => ?_⟩
      have t2 := same_upd (o := .lst ([.int sm] ++ LB (cntS (x.at_ j) ns))) hq2
      refine ⟨_, rfl, line1, fun q3 hq3 => ?_⟩
      have t3 := same_upd (o := .lst [.int (cntC (x.at_ j) ns : Nat)]) hq3
      refine ⟨q2, q3, _, _, rfl, rfl, t3 _ _ upd_same, upd_same, (show 6 + 1 ≤ sizeLine by decide), fun q4 hq4 => ?_⟩
      have tt := (t1.trans t2).trans t3
      refine h.same stU (tt.trans (same_upd hq4)) (tt.free hq4) ?_
      rw [upd_same, tally_is, ← cntS_perm perm, ← cntS_perm perm, ← cntS_perm perm, ← cntS_perm perm, ← cntS_perm perm, ← cntC_perm perm, ← perm.length_eq, ← cnt_sum ok ns, ← hs]
      simp [LB, FfNeutral.numbers, FfNeutral.ints]
      omega
end
end Fj
set_option Elab.async false
set_option linter.all false
set_option maxRecDepth 100000
set_option maxHeartbeats 4000000
namespace Fj
open PySem PySem.Spec PyProof.Rows L2
open Fh (Bytes Piece)
open FhWork (Rec Journal Name)
section
variable {P : Program} {w : World} {K : PySem.W.Frag} {mg : Str → Option Value} {base : Heap}
def spLacks (K : PySem.W.Frag) : Sp := fun vs H Q _ => ∃ (L : Addr) (x : FhJournals.State) (j o : Nat), vs = [.ref L, .int (j : Nat), .int (o : Nat)] ∧ StAt K H L x ∧ Ans K H L (FhJournals.step x (.lacks j o)) Q
theorem sc_lacks : FnScope ["journals", "j", "other", "record"] ["journals", "j", "other"] (defScope s_lacks) := ⟨rfl, rfl, rfl, by decide +kernel, rfl, by decide +kernel, by decide +kernel⟩
theorem ok_lacks (T : Tx K mg) : OkF P w K mg base 6 "lacks" ["journals", "j", "other"] (spLacks K) := by
  refine okf (d := d_lacks) 57 57 (N := ["journals", "j", "other", "record"]) T rfl rfl rfl rfl rfl sc_lacks (fun _ _ _ _ _ _ us hl => match us, hl with | [_, _, _], _ => rfl) (fun vs H Q E h => ?_) (fun f cdv A outer s H vs Q E hr h => ?_)
  · obtain ⟨L, x, j, o, rfl, st, h⟩ := h
    rfl
  · obtain ⟨L, x, j, o, rfl, st, h⟩ := h
    have hu := hu_of hr
    refine ⟨_, (pss_mid (ps_if (pt_val (pe_callF (ok_are_no_two_journals T) (hr.mono (by decide)) (pa_cons (pv 1) (pa_cons (pv 2) pa_nil)))) (pss_one (ps_ret (pe_lst (pa_cons (pe_un un_neg pe_int) pa_nil)))) pss_nil)
      (pss_one (ps_ret (pe_lst (pa_cons (pe_callB call_len_seq (by rfl) T.b_len PySem.boot_len (pa_cons (pe_lc (own := [("record", 3)]) (g := gName 3) (tt := (tNot (tB (tCall (spHasJust K) [] E0 (tCons (tOp (rIxL K) (tVar 0) (tVar 1)) (tCons (tVar 3) tNil)))))) (te := (tVar 3)) (by rfl) sc_lacks.nd (pi_list (pe_meth0 (pe_ix ix_list (pv 0) (pv 2) (fun _ _ => rfl)) T.c_Journal T.m_Journal_ordered (ok_Journal_ordered T) (hr.mono (by decide)) (b_Journal_ordered T) .nil pass0)) (blkOk_by (own := [("record", 3)]) (N := ["journals", "j", "other", "record"]) (sc := (defScope s_lacks)) (by decide +kernel)) (fun _ _ _ _ _ => pg_name (i := 3) sc_lacks.nd rfl (Or.inl rfl)) (fun _ _ _ _ _ => by exact (pts_one (pt_not (pt_val (pe_callF (ok_has_just T) (hr.mono (by decide)) (pa_cons (pe_ix ix_list (pv 0) (pv 1) (fun _ _ => rfl)) (pa_cons (pv 3) pa_nil))))))) (fun _ _ _ _ _ => by exact ((pv 3)))) pa_nil)) pa_nil))))), ?_⟩
    have e0 : FhJournals.step x (.lacks j o) = (x, if 2 < j ∨ 2 < o ∨ j = o then FhJournals.says (-1) else FhJournals.counts (FhWork.lacking (x.at_ j) (x.at_ o)).length) := rfl
    rw [e0] at h
    clear e0
    refine ⟨Mid0 H [some (.ref L), some (.int (j : Nat)), some (.int (o : Nat)), none] (¬ (2 < j ∨ 2 < o ∨ j = o)), ?_, ?_⟩
    · simp [tSeq, tIfS, tTest, tOp, rEq, rNe, rI0, rI, tVar, tC, tRet, tNext, L2.start, scal_ii, scal_nn, scal_in, scal_ni, scal_bb, line1, line2, line3, line7, tAnd, tOr, tNot, CDiv, CMul, tAsg, gName, tAndV, tOrV, tNotV, tCall, tCons, tNil, tCB, rU, tUn, tIf, tB, cx_K, cx_noxK, rIxL, rIxT, spI2, tLst]
      refine ⟨_, _, ⟨rfl, rfl⟩, ?_⟩
      by_cases c : (2 : Int) < (j : Nat) ∨ (2 : Int) < (o : Nat) ∨ ((j : Nat) : Int) = (o : Nat)
      · rw [if_pos c]
        rw [if_pos (by omega)] at h
        exact h.no st
      · rw [if_neg c]
        exact ⟨rfl, rfl, by omega⟩
    rintro σ H1 ⟨rfl, rfl, nw⟩
    rw [if_neg nw] at h
    obtain ⟨J, d, vs, c3, c4, hJ, put⟩ := st.get (i := j) (by omega)
    obtain ⟨J2, d2, vs2, c5, c6, hJ2, put2⟩ := st.get (i := o) (by omega)
    obtain ⟨dx, ho⟩ := hJ2.ob
    refine ⟨_, rfl, _, rfl, L, vs2, _, _, rfl, rfl, SqL.of c5, atI_nat c6, J2, dx, _, rfl, ho, rfl, J2, d2, x.at_ o, rfl, hJ2, fun H2 l ws s1 hl al => ?_⟩
    refine ⟨l, rfl, ⟨_, SqL.of hl⟩, fun D hD => lc_list (K := K) (a := l) (xs := ws) (fun i H3 => ∃ us, H3 = upd H2 D (.lst us) ∧ us.length = (((x.at_ o).take i).filter fun r => !hasJust (x.at_ j) r).length) ⟨[], rfl, rfl⟩ (fun i H3 _ ⟨us, e, _⟩ => by rw [e]; exact (same_upd hD).seq (SqL.of hl)) ?_ ?_⟩
    · rintro i v H3 hi ⟨us, rfl, lu⟩
      obtain ⟨r, hr, p, rfl, R⟩ := al.at hi
      have s2 := same_upd (o := .lst us) hD
      have sA := s1.trans s2
      refine ⟨rfl, ?_⟩
      refine ⟨_, rfl, _, rfl, L, vs, _, _, rfl, rfl, SqL.of (sA _ _ c3), atI_nat c4, _, rfl, J, d, p, x.at_ j, r, rfl, hJ.same sA, R.same s2, hJ2.ok.can (List.mem_of_getElem? hr), _, rfl, ?_⟩
      dsimp only
      cases c : hasJust (x.at_ j) r with
      | true =>
        rw [if_neg (by decide)]
        refine ⟨us, rfl, ?_⟩
        rw [filter_snoc _ hr, if_neg (by rw [c]; decide), List.append_nil]
        exact lu
      | false =>
        rw [if_pos (by rfl)]
        refine ⟨_, rfl, us, upd_same, ?_, us ++ [.ref p], by rw [upd_upd], ?_⟩
        · rw [lu]
          exact filter_few hJ2.ok.few
        · rw [filter_snoc _ hr, if_pos (by rw [c]; rfl), List.length_append, List.length_append, lu]
          rfl
    · rintro H3 ⟨us, rfl, lu⟩
      rw [al.len, List.take_length] at lu
      have s2 := same_upd (o := .lst us) hD
      refine ⟨D, us, rfl, .inl (SqL.of upd_same), line1, fun q hq => ?_⟩
      have en : us.length = (FhWork.lacking (x.at_ j) (x.at_ o)).length := by
        rw [lu]
        unfold FhWork.lacking
        refine congrArg List.length (List.filter_congr fun r _ => ?_)
        unfold hasJust
        by_cases c : (x.at_ j).at_ r.stamp = some r
        · simp [c]
        · simp [c]
      rw [en]
      exact (h.up (s1.trans s2)).no (st.same (s1.trans s2)) q hq
end
end Fj
set_option Elab.async false
set_option linter.all false
set_option maxRecDepth 100000
set_option maxHeartbeats 4000000
namespace Fj
open PySem PySem.Spec PyProof.Rows L2
open Fh (Bytes Piece)
open FhWork (Rec Journal Name)
/-- the journal has another record of that stamp -/
def dif (j : Journal) (r : Rec) : Bool := match j.at_ r.stamp with
  | some x => x != r
  | none => false
theorem dif_none {j k : Journal} (h : ∀ r ∈ k, dif j r = false) : FhWork.differsAt j k = none := by
  unfold FhWork.differsAt
  rw [List.findIdx?_eq_none_iff]
  exact h
theorem dif_at {j : Journal} {i : Nat} {r : Rec} : ∀ {k : Journal}, k[i]? = some r → (∀ x ∈ k.take i, dif j x = false) → dif j r = true → FhWork.differsAt j k = some i := by
  induction i with
  | zero =>
    intro k h1 _ h3
    cases k with
    | nil => cases h1
    | cons y k =>
      simp at h1
      subst h1
      show List.findIdx? (dif j) (y :: k) = some 0
      rw [List.findIdx?_cons, h3]
      rfl
  | succ i ih =>
    intro k h1 h2 h3
    cases k with
    | nil => cases h1
    | cons y k =>
      have z := ih (k := k) (by simpa using h1) (fun x hx => h2 x (by simp [hx])) h3
      show List.findIdx? (dif j) (y :: k) = some (i + 1)
      rw [List.findIdx?_cons, h2 y (by simp)]
      have z : List.findIdx? (dif j) k = some i := z
      rw [z]
      rfl
theorem dif_new {j : Journal} {r : Rec} (h : j.has r.stamp = false) : dif j r = false := by
  unfold dif
  rw [at_none h]
theorem dif_just {j : Journal} {r : Rec} (h : j.has r.stamp = true) : dif j r = !hasJust j r := by
  obtain ⟨x, hx⟩ := at_some h
  unfold dif hasJust
  rw [hx]
  by_cases c : x = r
  · simp [c]
  · simp [c]
theorem coming_snoc {j k : Journal} {i : Nat} {r : Rec} (h : k[i]? = some r) : comingOf j (k.take (i + 1)) = comingOf j (k.take i) ++ (if j.has r.stamp = false then [r] else []) := by
  unfold comingOf
  rw [filter_snoc _ h]
  cases j.has r.stamp <;> rfl
def foldJ (j : Journal) (cs : List Rec) : Journal := cs.foldl (fun a r => FhWork.into r a) j
theorem foldJ_snoc {j : Journal} {cs : List Rec} {i : Nat} {r : Rec} (h : cs[i]? = some r) : foldJ j (cs.take (i + 1)) = FhWork.into r (foldJ j (cs.take i)) := by
  unfold foldJ
  rw [take_snoc h, List.foldl_append]
  rfl
theorem foldJ_len (j : Journal) (cs : List Rec) : (foldJ j cs).length = cs.length + j.length := by
  unfold foldJ
  rw [(fold_perm _ _).length_eq, List.length_append]
theorem foldJ_has {j : Journal} {cs : List Rec} (srt : cs.Pairwise (fun a b => a.stamp < b.stamp)) (new : ∀ r ∈ cs, ∀ x ∈ j, x.stamp ≠ r.stamp) {i : Nat} {r : Rec} (h : cs[i]? = some r) : (foldJ j (cs.take i)).has r.stamp = false := by
  cases q : (foldJ j (cs.take i)).has r.stamp with
  | false => rfl
  | true =>
    obtain ⟨x, m, e⟩ := has_iff.mp q
    unfold foldJ at m
    rcases List.mem_append.mp ((fold_perm _ _).mem_iff.mp m) with z | z
    · exfalso
      have il := (List.getElem?_eq_some_iff.mp h)
      obtain ⟨hl, er⟩ := il
      obtain ⟨n, hn, ex⟩ := List.mem_take_iff_getElem.mp z
      have := List.pairwise_iff_getElem.mp srt n i (by omega) hl (by omega)
      rw [ex, er] at this
      omega
    · exact absurd e (new r (List.mem_of_getElem? h) x z)
section
variable {P : Program} {w : World} {K : PySem.W.Frag} {mg : Str → Option Value} {base : Heap}
def spMerge (K : PySem.W.Frag) : Sp := fun vs H Q _ => ∃ (L : Addr) (x : FhJournals.State) (j o : Nat), vs = [.ref L, .int (j : Nat), .int (o : Nat)] ∧ StAt K H L x ∧ Ans K H L (FhJournals.step x (.merge j o)) Q
theorem sc_merge : FnScope ["journals", "j", "other", "journal", "coming", "number", "record"] ["journals", "j", "other"] (defScope s_merge) := ⟨rfl, rfl, rfl, by decide +kernel, rfl, by decide +kernel, by decide +kernel⟩
theorem ok_merge (T : Tx K mg) : OkF P w K mg base 6 "merge" ["journals", "j", "other"] (spMerge K) := by
  refine okf (d := d_merge) 56 56 (N := ["journals", "j", "other", "journal", "coming", "number", "record"]) T rfl rfl rfl rfl rfl sc_merge (fun _ _ _ _ _ _ us hl => match us, hl with | [_, _, _], _ => rfl) (fun vs H Q E h => ?_) (fun f cdv A outer s H vs Q E hr h => ?_)
  · obtain ⟨L, x, j, o, rfl, st, h⟩ := h
    rfl
  · obtain ⟨L, x, j, o, rfl, st, h⟩ := h
    have hu := hu_of hr
    refine ⟨_, (pss_mid (ps_if (pt_val (pe_callF (ok_are_no_two_journals T) (hr.mono (by decide)) (pa_cons (pv 1) (pa_cons (pv 2) pa_nil)))) (pss_one (ps_ret (pe_lst (pa_cons (pe_un un_neg pe_int) pa_nil)))) pss_nil)
      (pss_cons (ps_set (i := 3) sc_merge.nd rfl (Or.inl rfl) (pe_ix ix_list (pv 0) (pv 1) (fun _ _ => rfl)))
      (pss_cons (ps_set (i := 4) sc_merge.nd rfl (Or.inl rfl) (pe_lst pa_nil))
      (pss_mid (ps_for PassesOwn.never rfl (pi_enum (by rfl) T.b_enumerate (pa_cons (pe_lock (pe_meth0 (pe_ix ix_list (pv 0) (pv 2) (fun _ _ => rfl)) T.c_Journal T.m_Journal_ordered (ok_Journal_ordered T) (hr.mono (by decide)) (b_Journal_ordered T) .nil pass0)) pa_nil)) (pg_tup rfl (pgs_cons (pg_name (i := 5) sc_merge.nd rfl (Or.inl rfl)) (pgs_cons (pg_name (i := 6) sc_merge.nd rfl (Or.inl rfl)) pgs_nil)))
        (pss_one (ps_if (pt_not (pt_val (pe_meth (pv 3) T.c_Journal T.m_Journal_has_stamp (ok_Journal_has_stamp T) (hr.mono (by decide)) (b_Journal_has_stamp T) .nil pass0 (pa_cons (pe_fld (pv 6) rfl) pa_nil)))) (pss_one (ps_expr (pe_bm PySem.F.plainAttrs_list PySem.F.slot_list_append PySem.F.type_list_append mt_append (pv 4) (pa_cons (pv 6) pa_nil)))) (pss_one (ps_if (pt_not (pt_val (pe_callF (ok_has_just T) (hr.mono (by decide)) (pa_cons (pv 3) (pa_cons (pv 6) pa_nil))))) (pss_one (ps_ret (pe_lst (pa_cons (pe_un un_neg pe_int) (pa_cons pe_int (pa_cons (pv 5) pa_nil)))))) pss_nil)))))
      (pss_mid (ps_if (pt_not (pt_val (pe_meth (pv 3) T.c_Journal T.m_Journal_has_room (ok_Journal_has_room T) (hr.mono (by decide)) (b_Journal_has_room T) .nil pass0 (pa_cons (pv 4) pa_nil)))) (pss_one (ps_ret (pe_lst (pa_cons (pe_un un_neg pe_int) pa_nil)))) pss_nil)
      (pss_mid (ps_for PassesOwn.never rfl (pi_list (pv 4)) (pg_name (i := 6) sc_merge.nd rfl (Or.inl rfl))
        (pss_one (ps_expr (pe_meth (pv 3) T.c_Journal T.m_Journal_put_in (ok_Journal_put_in T) (hr.mono (by decide)) (b_Journal_put_in T) .nil pass0 (pa_cons (pv 6) pa_nil)))))
      (pss_one (ps_ret (pe_lst (pa_cons (pe_callB call_len_seq (by rfl) T.b_len PySem.boot_len (pa_cons (pv 4) pa_nil)) pa_nil)))))))))), ?_⟩
    have e0 : FhJournals.step x (.merge j o) = if 2 < j ∨ 2 < o ∨ j = o then (x, FhJournals.says (-1)) else (match FhWork.merge (x.at_ j) (x.at_ o) with
      | .ok k => (x.with_ j k, FhJournals.counts (k.length - (x.at_ j).length))
      | .error (.twice n) => (x, FhJournals.bad 7 n)
      | .error .full => (x, FhJournals.says (-6))) := rfl
    rw [e0] at h
    clear e0
    refine ⟨Mid0 H [some (.ref L), some (.int (j : Nat)), some (.int (o : Nat)), none, none, none, none] (¬ (2 < j ∨ 2 < o ∨ j = o)), ?_, ?_⟩
    · simp [tSeq, tIfS, tTest, tOp, rEq, rNe, rI0, rI, tVar, tC, tRet, tNext, L2.start, scal_ii, scal_nn, scal_in, scal_ni, scal_bb, line1, line2, line3, line7, tAnd, tOr, tNot, CDiv, CMul, tAsg, gName, tAndV, tOrV, tNotV, tCall, tCons, tNil, tCB, rU, tUn, tIf, tB, cx_K, cx_noxK, rIxL, rIxT, spI2, tLst]
      refine ⟨_, _, ⟨rfl, rfl⟩, ?_⟩
      by_cases c : (2 : Int) < (j : Nat) ∨ (2 : Int) < (o : Nat) ∨ ((j : Nat) : Int) = (o : Nat)
      · rw [if_pos c]
        rw [if_pos (by omega)] at h
        exact h.no st
      · rw [if_neg c]
        exact ⟨rfl, rfl, by omega⟩
    rintro σ H1 ⟨rfl, rfl, nw⟩
    rw [if_neg nw] at h
    obtain ⟨J, d, vs, c3, c4, hJ, put⟩ := st.get (i := j) (by omega)
    obtain ⟨J2, d2, vs2, c5, c6, hJ2, put2⟩ := st.get (i := o) (by omega)
    obtain ⟨dx, ho⟩ := hJ.ob
    obtain ⟨dx2, ho2⟩ := hJ2.ob
    have few2 := hJ2.ok.few
    have few1 := hJ.ok.few
    refine ⟨_, rfl, _, rfl, L, vs, _, _, rfl, rfl, SqL.of c3, atI_nat c4, ?_⟩
    refine ⟨Nat.zero_le _, fun C hC => ?_⟩
    refine ⟨fun σ H4 => ∃ (us : List V) (u5 u6 : Option V), σ = [some (.ref L), some (.int (j : Nat)), some (.int (o : Nat)), some (.ref J), some (.ref C), u5, u6] ∧ Same H1 H4 ∧ H4 C = some (.lst us) ∧ All2 (RecV K H4) us (comingOf (x.at_ j) (x.at_ o)) ∧ Agree (x.at_ j) (x.at_ o), ?_, ?_⟩
    · refine ⟨C, _, upd_same, trivial, fun oC => ?_⟩
      have sL : Same H1 (upd (upd H1 C (.lst [])) C (.frz oC (.lst []))) := fun b o z => by
        rw [upd_ne (ne_of_none z hC), upd_ne (ne_of_none z hC)]
        exact z
      have hCL : upd (upd H1 C (.lst [])) C (.frz oC (.lst [])) C = some (.frz oC (.lst [])) := upd_same
      generalize upd (upd H1 C (.lst [])) C (.frz oC (.lst [])) = HL at *
      refine ⟨_, rfl, _, rfl, L, vs2, _, _, rfl, rfl, SqL.of (sL _ _ c5), atI_nat c6, J2, dx2, _, rfl, sL _ _ ho2, rfl, J2, d2, x.at_ o, rfl, hJ2.same sL, fun H2 l ws s2 hl al => ?_⟩
      have hC2 := s2 _ _ hCL
      refine ⟨hC2, ?_⟩
      have sG : Same H1 (del H2 C) := del_up (sL.trans s2) hC
      have hlG : del H2 C l = some (.lst ws) := by rw [del_ne (ne_of hl hC2 (by intro z; cases z))]; exact hl
      have alG := al.mono fun _ _ z => RecV.del hC2 z
      have hJG := hJ.same sG
      have hoG := sG _ _ ho
      have stG := st.same sG
      have hG := h.up sG
      have nC : del H2 C C = none := if_pos rfl
      have eU : Same (del H2 C) (upd H2 C (.lst [])) := del_back
      have hC3 : upd H2 C (.lst []) C = some (.lst []) := upd_same
      generalize del H2 C = G at *
      generalize upd H2 C (.lst []) = H3 at *
      clear al hl s2 hC2 sL hCL
      refine ⟨l, ws, rfl, SqL.of (eU _ _ hlG), for_it (walk_enum (K := K) (a := l) (xs := ws)) (fun i σ H4 => ∃ (us : List V) (u5 u6 : Option V), σ = [some (.ref L), some (.int (j : Nat)), some (.int (o : Nat)), some (.ref J), some (.ref C), u5, u6] ∧ H4 C = some (.lst us) ∧ Same G H4 ∧ All2 (RecV K G) us (comingOf (x.at_ j) ((x.at_ o).take i)) ∧ ∀ r ∈ (x.at_ o).take i, dif (x.at_ j) r = false)
        ⟨[], none, none, rfl, hC3, eU, .nil, by simp⟩ (fun i σ H4 _ ⟨_, _, _, _, _, s, _⟩ => SqL.of (s _ _ hlG)) ?_ ?_⟩
      · rintro i v σ H4 H5 hi ⟨us, u5, u6, rfl, hC4, s4, alu, nd⟩ ⟨t, xi, xr, rfl, ht, rfl, e1, e2⟩
        obtain rfl := Option.some.inj e1
        obtain ⟨r, hr, p, rfl, R⟩ := alG.at e2
        refine ⟨_, _, rfl, SqT.of upd_same, rfl, _, _, rfl, _, _, rfl, rfl, ?_⟩
        have sT := same_upd (o := .tup [.int ((i : Nat) : Int), .ref p]) ht
        have s5 := s4.trans sT
        have hC5 := sT _ _ hC4
        clear s4 hC4
        generalize upd H4 t (.tup [.int ((i : Nat) : Int), .ref p]) = H5 at *
        obtain ⟨y1, y2, y3, y4, y5, y6, _⟩ := R.ex
        have lu : us.length ≤ 256 := by
          have z := alu.len
          have z2 := List.length_filter_le (fun r : Rec => !(x.at_ j).has r.stamp) ((x.at_ o).take i)
          rw [List.length_take] at z2
          unfold comingOf at z
          omega
        have ndn : dif (x.at_ j) r = false → ∀ r' ∈ (x.at_ o).take (i + 1), dif (x.at_ j) r' = false := fun z r' hr' => by
          rw [take_snoc hr] at hr'
          rcases List.mem_append.mp hr' with y | y
          · exact nd r' y
          · rw [List.mem_singleton.mp y]
            exact z
        refine ⟨_, rfl, J, dx, _, rfl, s5 _ _ hoG, rfl, _, rfl, _, _, _, _, _, rfl, s5 _ _ y6, T.c_Record, T.n_Record_stamp, recF_stamp _ _ _ _ _ _ _ _, J, d, x.at_ j, r.stamp, rfl, hJG.same s5, _, rfl, ?_⟩
        dsimp only
        cases hs : (x.at_ j).has r.stamp with
        | false =>
          rw [if_pos (by rfl)]
          simp [tSeq, tIfS, tTest, tOp, rEq, rNe, rI0, rI, tVar, tC, tRet, tNext, L2.start, scal_ii, scal_nn, scal_in, scal_ni, scal_bb, line1, line2, line3, line7, tAnd, tOr, tNot, CDiv, CMul, tAsg, gName, tAndV, tOrV, tNotV, tCall, tCons, tNil, tCB, rU, tUn, tIf, tB, cx_K, cx_noxK, rIxL, rIxT, tDrop, tBM, rAppend]
          refine ⟨.inl ⟨rfl, _, SqL.of hC5⟩, _, hC5, Nat.lt_of_le_of_lt lu (by decide), ?_⟩
          refine ⟨us ++ [.ref p], upd_same, fun b o z => ?_, ?_, ndn (dif_new hs)⟩
          · rw [upd_ne (ne_of_none z nC)]
            exact s5 _ _ z
          · rw [coming_snoc hr, if_pos hs]
            exact alu.snoc ⟨p, rfl, R⟩
        | true =>
          rw [if_neg (by decide)]
          refine ⟨_, rfl, _, rfl, J, d, p, x.at_ j, r, rfl, hJG.same s5, R.same s5, hJ2.ok.can (List.mem_of_getElem? hr), _, rfl, ?_⟩
          dsimp only
          have ed := dif_just hs
          cases c : hasJust (x.at_ j) r with
          | true =>
            rw [if_neg (by decide)]
            refine ⟨us, _, _, rfl, hC5, s5, ?_, ndn (by rw [ed, c]; rfl)⟩
            rw [coming_snoc hr, if_neg (by rw [hs]; decide), List.append_nil]
            exact alu
          | false =>
            rw [if_pos (by rfl)]
            have e : FhWork.merge (x.at_ j) (x.at_ o) = .error (.twice i) := by
              unfold FhWork.merge
              rw [dif_at hr nd (by rw [ed, c]; rfl)]
            rw [e] at hG
            simp [tSeq, tIfS, tTest, tOp, rEq, rNe, rI0, rI, tVar, tC, tRet, tNext, L2.start, scal_ii, scal_nn, scal_in, scal_ni, scal_bb, line1, line2, line3, line7, tAnd, tOr, tNot, CDiv, CMul, tAsg, gName, tAndV, tOrV, tNotV, tCall, tCons, tNil, tCB, rU, tUn, tIf, tB, cx_K, cx_noxK, rIxL, rIxT, tLst]
            exact fun q hq => hG.same stG (s5.trans (same_upd hq)) (s5.free hq) upd_same
      · rintro σ H4 ⟨us, u5, u6, rfl, hC4, s4, alu, nd⟩
        rw [alG.len, List.take_length] at alu nd
        exact ⟨us, u5, u6, rfl, sG.trans s4, hC4, alu.mono (fun _ _ z => RecV.same s4 z), differs_iff.mp (dif_none nd)⟩
    rintro σ H4 ⟨us, u5, u6, rfl, s4, hC4, alu, agr⟩
    have hI : JIn K H4 L x j J d := JIn.same s4 ⟨hJ, put, st⟩
    have h := h.up s4
    have ho := s4 _ _ ho
    have em : FhWork.merge (x.at_ j) (x.at_ o) = if (FhWork.union (x.at_ j) (x.at_ o)).length ≤ 256 ∧ FhWork.pieces (FhWork.union (x.at_ j) (x.at_ o)) ≤ 16384 then .ok (FhWork.union (x.at_ j) (x.at_ o)) else .error .full := by
      unfold FhWork.merge
      rw [differs_iff.mpr agr]
      rfl
    have lc : (comingOf (x.at_ j) (x.at_ o)).length ≤ 256 := by
      unfold comingOf
      have z2 := List.length_filter_le (fun r : Rec => !(x.at_ j).has r.stamp) (x.at_ o)
      omega
    clear hJ put st s4 c3 c5 c6 c4 put2 ho2
    refine ⟨fun σ H5 => σ = [some (.ref L), some (.int (j : Nat)), some (.int (o : Nat)), some (.ref J), some (.ref C), u5, u6] ∧ Same H4 H5 ∧ ((FhWork.union (x.at_ j) (x.at_ o)).length ≤ 256 ∧ FhWork.pieces (FhWork.union (x.at_ j) (x.at_ o)) ≤ 16384), ?_, ?_⟩
    · refine ⟨_, rfl, J, dx, _, rfl, ho, rfl, _, rfl, J, d, C, x.at_ j, us, _, rfl, hI.at_, SqL.of hC4, alu, lc, fun H5 s5 => ⟨_, rfl, ?_⟩⟩
      have er : (decide ((x.at_ j).length + (comingOf (x.at_ j) (x.at_ o)).length ≤ 256) && decide (FhWork.pieces (x.at_ j) + ((comingOf (x.at_ j) (x.at_ o)).map FhWork.piecesOf).sum ≤ 16384)) = decide ((FhWork.union (x.at_ j) (x.at_ o)).length ≤ 256 ∧ FhWork.pieces (FhWork.union (x.at_ j) (x.at_ o)) ≤ 16384) := by
        rw [union_len agr, union_pieces agr, Bool.eq_iff_iff]
        simp
      dsimp only
      rw [er]
      by_cases c : (FhWork.union (x.at_ j) (x.at_ o)).length ≤ 256 ∧ FhWork.pieces (FhWork.union (x.at_ j) (x.at_ o)) ≤ 16384
      · rw [if_neg (by rw [decide_eq_true c]; decide)]
        exact ⟨rfl, s5, c⟩
      · rw [if_pos (by rw [decide_eq_false c]; rfl)]
        rw [em, if_neg c] at h
        simp [tSeq, tIfS, tTest, tOp, rEq, rNe, rI0, rI, tVar, tC, tRet, tNext, L2.start, scal_ii, scal_nn, scal_in, scal_ni, scal_bb, line1, line2, line3, line7, tAnd, tOr, tNot, CDiv, CMul, tAsg, gName, tAndV, tOrV, tNotV, tCall, tCons, tNil, tCB, rU, tUn, tIf, tB, cx_K, cx_noxK, rIxL, rIxT, tLst]
        exact (h.up s5).no (hI.same s5).all
    rintro σ H5 ⟨rfl, s5, room⟩
    rw [em, if_pos room] at h
    have hI := hI.same s5
    have h := h.up s5
    have hC5 := s5 _ _ hC4
    have al5 := alu.mono fun _ _ z => RecV.same s5 z
    clear alu hC4 ho em
    obtain ⟨rs0, hd0, _⟩ := hI.at_.ex
    have srt : (comingOf (x.at_ j) (x.at_ o)).Pairwise (fun a b => a.stamp < b.stamp) := hJ2.ok.sorted.filter _
    have eun : FhWork.union (x.at_ j) (x.at_ o) = foldJ (x.at_ j) (comingOf (x.at_ j) (x.at_ o)) := by
      unfold FhWork.union foldJ
      rw [lacking_is agr]
    refine ⟨fun σ H6 => ∃ u6, σ = [some (.ref L), some (.int (j : Nat)), some (.int (o : Nat)), some (.ref J), some (.ref C), u5, u6] ∧ JRaw K H6 J d (foldJ (x.at_ j) (comingOf (x.at_ j) (x.at_ o))) ∧ KeptD H5 H6 d, ?_, ?_⟩
    · refine ⟨_, rfl, C, rfl, ⟨_, SqL.of hC5⟩, for_list (K := K) (a := C) (xs := us) (fun i σ H6 => ∃ u6, σ = [some (.ref L), some (.int (j : Nat)), some (.int (o : Nat)), some (.ref J), some (.ref C), u5, u6] ∧ JRaw K H6 J d (foldJ (x.at_ j) ((comingOf (x.at_ j) (x.at_ o)).take i)) ∧ KeptD H5 H6 d)
        ⟨u6, rfl, hI.at_.raw, fun b o e _ => e⟩ (fun i σ H6 _ ⟨_, _, _, k⟩ => k.seq hd0 (SqL.of hC5)) ?_ ?_⟩
      · rintro i v σ H6 hi ⟨u6, rfl, hR, k⟩
        obtain ⟨r, hr, p, rfl, R⟩ := al5.at hi
        obtain ⟨dx6, ho6⟩ := hR.ob
        have il := (List.getElem?_eq_some_iff.mp hr).1
        refine ⟨_, rfl, J, dx6, _, rfl, ho6, rfl, _, rfl, J, d, p, _, r, rfl, hR, R.keptD k hd0, foldJ_has srt coming_new hr, ?_, fun H7 hR7 k7 => ?_⟩
        · rw [foldJ_len, List.length_take]
          omega
        · rw [← foldJ_snoc hr] at hR7
          exact ⟨_, rfl, hR7, fun b o e hb => k7 _ _ (k _ _ e hb) hb⟩
      · rintro σ H6 ⟨u6, rfl, hR, k⟩
        rw [al5.len, List.take_length] at hR
        exact ⟨u6, rfl, hR, k⟩
    rintro σ H6 ⟨u6', rfl, hR, k⟩
    rw [← eun] at hR
    have hJ6 := hR.well (jok_union hI.at_.ok hJ2.ok agr room.1)
    refine ⟨_, rfl, C, us, rfl, .inl (k.seq hd0 (SqL.of hC5)), line1, fun q hq => ?_⟩
    have sq := same_upd (o := .lst [.int ((us.length : Nat) : Int)]) hq
    have k2 : KeptD H5 (upd H6 q (.lst [.int ((us.length : Nat) : Int)])) d := fun b o e hb => sq _ _ (k _ _ e hb)
    have en : (FhWork.union (x.at_ j) (x.at_ o)).length - (x.at_ j).length = us.length := by
      rw [union_len agr, al5.len]
      omega
    have h : Ans K H5 L (x.with_ j (FhWork.union (x.at_ j) (x.at_ o)), FhJournals.counts ((FhWork.union (x.at_ j) (x.at_ o)).length - (x.at_ j).length)) Q := h
    rw [en] at h
    refine h _ q (Fr.ofD k2 hd0) (hI.put _ _ k2 (hJ6.same sq)) ?_ upd_same
    cases z : H5 q with
    | none => rfl
    | some o' =>
      by_cases e : q = d
      · obtain ⟨rs, g, _⟩ := hJ6.ex
        rw [← e, hq] at g
        cases g
      · rw [k _ _ z e] at hq
        cases hq
end
end Fj
set_option Elab.async false
set_option linter.all false
set_option maxRecDepth 100000
set_option maxHeartbeats 4000000
namespace Fj
open PySem PySem.Spec PyProof.Rows L2
open Fh (Bytes Piece)
open FhWork (Rec Journal Name)
/-! ## Calls handed over -/
theorem w32 {z : Int} (h : FfNeutral.whole32 z = true) : ∃ n : Nat, z = n := by
  unfold FfNeutral.whole32 at h
  rw [Bool.and_eq_true, decide_eq_true_eq, decide_eq_true_eq] at h
  exact ⟨z.toNat, by omega⟩
theorem wnat {z : Int} {b : Nat} (h : FfNeutral.natural z b = true) : ∃ n : Nat, z = n := by
  unfold FfNeutral.natural at h
  rw [Bool.and_eq_true, decide_eq_true_eq, decide_eq_true_eq] at h
  exact ⟨z.toNat, by omega⟩
theorem bytes_row : ∀ {l : List Int}, FfNeutral.byteRow l = true → bv (FfNeutral.bytesOf l) = l.map V.int
  | [], _ => rfl
  | z :: l, h => by
    unfold FfNeutral.byteRow at h
    rw [List.all_cons, Bool.and_eq_true, Bool.and_eq_true, decide_eq_true_eq, decide_eq_true_eq] at h
    obtain ⟨⟨h1, h2⟩, h3⟩ := h
    have ih := bytes_row (l := l) h3
    have e : ((UInt8.ofNat z.toNat).toNat : Int) = z := by
      rw [UInt8.toNat_ofNat']
      omega
    show V.int ((UInt8.ofNat z.toNat).toNat : Int) :: bv (FfNeutral.bytesOf l) = V.int z :: l.map V.int
    rw [e, ih]
theorem bytes_len (l : List Int) : (FfNeutral.bytesOf l).length = l.length := by
  unfold FfNeutral.bytesOf
  rw [List.length_map]
def RowV (H : Hp) (v : V) (r : List Int) : Prop := ∃ a, v = .ref a ∧ H a = some (.lst (r.map V.int))
def AnsN (K : PySem.W.Frag) (H : Hp) (L : Addr) (y : FhJournals.State × List Int) (Q : VK) : Prop := ∀ H' p, Fr H H' → StAt K H' L y.1 → H p = none → H' p = some (.lst (y.2.map V.int)) → Q (.ref p) H'
theorem AnsN.of {K : PySem.W.Frag} {H : Hp} {L : Addr} {x : FhJournals.State} {c : FfNeutral.Call} {k : FhJournals.Call} {Q : VK} (h : AnsN K H L (FfNeutral.step x c) Q) (e : FfNeutral.callOf c = some k) : Ans K H L (FhJournals.step x k) Q := by
  unfold FfNeutral.step at h
  rw [e] at h
  exact h
theorem AnsN.up {K : PySem.W.Frag} {H H' : Hp} {L : Addr} {y : FhJournals.State × List Int} {Q : VK} (h : AnsN K H L y Q) (s : Same H H') : AnsN K H' L y Q := fun H2 q f t np => h H2 q ((Fr.of s).trans f) t (s.free np)
theorem RowV.same {H H' : Hp} (s : Same H H') {v : V} {r : List Int} (h : RowV H v r) : RowV H' v r := by
  obtain ⟨a, e, h⟩ := h
  exact ⟨a, e, s _ _ h⟩
/-- a call with its numbers and its rows; which of them, told by dom -/
def spCall (dom : Int → Bool) (K : PySem.W.Frag) : Sp := fun vs H Q _ => ∃ (L vl rl : Addr) (x : FhJournals.State) (p : Int) (xs : List Int) (rows : List (List Int)) (rvs : List V), vs = [.ref L, .int p, .ref vl, .ref rl] ∧ StAt K H L x ∧ SqL K H vl (xs.map V.int) ∧ SqL K H rl rvs ∧ All2 (RowV H) rvs rows ∧
  FfNeutral.asked1 ((p :: xs) :: rows) = true ∧ (∀ r ∈ rows, r.length ≤ 20000) ∧ dom p = true ∧ AnsN K H L (FfNeutral.step x ((p :: xs) :: rows)) Q
/-- .. that has no rows -/
def spAsk (dom : Int → Bool) (K : PySem.W.Frag) : Sp := fun vs H Q _ => ∃ (L vl : Addr) (x : FhJournals.State) (p : Int) (xs : List Int) (rows : List (List Int)), vs = [.ref L, .int p, .ref vl] ∧ StAt K H L x ∧ SqL K H vl (xs.map V.int) ∧
  FfNeutral.asked1 ((p :: xs) :: rows) = true ∧ dom p = true ∧ AnsN K H L (FfNeutral.step x ((p :: xs) :: rows)) Q
section
variable {P : Program} {w : World} {K : PySem.W.Frag} {mg : Str → Option Value} {base : Heap}
theorem sc_answer_entry : FnScope ["journals", "call", "v", "rows"] ["journals", "call", "v", "rows"] (defScope s_answer_entry) := ⟨rfl, rfl, rfl, by decide +kernel, rfl, by decide +kernel, by decide +kernel⟩
theorem ok_answer_entry (T : Tx K mg) : OkF P w K mg base 11 "answer_entry" ["journals", "call", "v", "rows"] (spCall (fun p => decide (p ≤ 4)) K) := by
  refine okf (d := d_answer_entry) 72 72 (N := ["journals", "call", "v", "rows"]) T rfl rfl rfl rfl rfl sc_answer_entry (fun _ _ _ _ _ _ us hl => match us, hl with | [_, _, _, _], _ => rfl) (fun vs H Q E h => ?_) (fun f cdv A outer s H vs Q E hr h => ?_)
  · obtain ⟨L, vl, rl, x, p, xs, rows, rvs, rfl, st, hv, hl, al, hc, few, dm, h⟩ := h
    rfl
  · obtain ⟨L, vl, rl, x, p, xs, rows, rvs, rfl, st, hv, hl, al, hc, few, dm, h⟩ := h
    have hu := hu_of hr
    refine ⟨_, (pss_cons (ps_if (pt_cmpR op_eq (pv 1) (pe_gi T.i_WRITE) (nomark _)) (pss_one (ps_ret (pe_callF (ok_write T) (hr.mono (by decide)) (pa_cons (pv 0) (pa_cons (pe_ix ix_list (pv 2) pe_int (fun _ _ => rfl)) (pa_cons (pe_ix ix_list (pv 2) pe_int (fun _ _ => rfl)) (pa_cons (pe_ix ix_list (pv 2) pe_int (fun _ _ => rfl)) (pa_cons (pe_ix ix_list (pv 2) pe_int (fun _ _ => rfl)) (pa_cons (pe_ix ix_list (pv 2) pe_int (fun _ _ => rfl)) (pa_cons (pe_ix ix_list (pv 2) pe_int (fun _ _ => rfl)) (pa_cons (pe_ix ix_list (pv 3) pe_int (fun _ _ => rfl)) (pa_cons (pe_ix ix_list (pv 3) pe_int (fun _ _ => rfl)) pa_nil)))))))))))) pss_nil)
      (pss_cons (ps_if (pt_cmpR op_eq (pv 1) (pe_gi T.i_RULE) (nomark _)) (pss_one (ps_ret (pe_callF (ok_rule T) (hr.mono (by decide)) (pa_cons (pv 0) (pa_cons (pe_ix ix_list (pv 2) pe_int (fun _ _ => rfl)) (pa_cons (pe_ix ix_list (pv 2) pe_int (fun _ _ => rfl)) (pa_cons (pe_ix ix_list (pv 2) pe_int (fun _ _ => rfl)) (pa_cons (pe_ix ix_list (pv 2) pe_int (fun _ _ => rfl)) (pa_cons (pe_ix ix_list (pv 2) pe_int (fun _ _ => rfl)) (pa_cons (pe_ix ix_list (pv 2) pe_int (fun _ _ => rfl)) pa_nil)))))))))) pss_nil)
      (pss_cons (ps_if (pt_cmpR op_eq (pv 1) (pe_gi T.i_BACK) (nomark _)) (pss_one (ps_ret (pe_callF (ok_back T) (hr.mono (by decide)) (pa_cons (pv 0) (pa_cons (pe_ix ix_list (pv 2) pe_int (fun _ _ => rfl)) (pa_cons (pe_ix ix_list (pv 2) pe_int (fun _ _ => rfl)) (pa_cons (pe_ix ix_list (pv 2) pe_int (fun _ _ => rfl)) (pa_cons (pe_ix ix_list (pv 2) pe_int (fun _ _ => rfl)) (pa_cons (pe_ix ix_list (pv 2) pe_int (fun _ _ => rfl)) pa_nil))))))))) pss_nil)
      (pss_one (ps_ret (pe_callF (ok_remark T) (hr.mono (by decide)) (pa_cons (pv 0) (pa_cons (pe_ix ix_list (pv 2) pe_int (fun _ _ => rfl)) (pa_cons (pe_ix ix_list (pv 2) pe_int (fun _ _ => rfl)) (pa_cons (pe_ix ix_list (pv 2) pe_int (fun _ _ => rfl)) (pa_cons (pe_ix ix_list (pv 2) pe_int (fun _ _ => rfl)) (pa_cons (pe_ix ix_list (pv 2) pe_int (fun _ _ => rfl)) (pa_cons (pe_ix ix_list (pv 3) pe_int (fun _ _ => rfl)) pa_nil))))))))))))), ?_⟩
    simp [tSeq, tIfS, tTest, tOp, rEq, rNe, rI0, rI, tVar, tC, tRet, tNext, L2.start, scal_ii, scal_nn, scal_in, scal_ni, scal_bb, line1, line2, line3, line7, tAnd, tOr, tNot, CDiv, CMul, tAsg, gName, tAndV, tOrV, tNotV, tCall, tCons, tNil, tCB, rU, tUn, tIf, tB, cx_K, cx_noxK, rIxL, rIxT]
    simp only [decide_eq_true_eq] at dm
    unfold FfNeutral.asked1 at hc
    split at hc
    · rename_i v0 v1 v2 v3 v4 v5 r0 r1 e
      injection e with e1 e2
      injection e1 with e0 e1
      subst e0 e1 e2
      simp only [Bool.and_eq_true] at hc
      obtain ⟨c0, c1, c2, c3, c4, c5, c6, c7⟩ := hc
      obtain ⟨v0, rfl⟩ := w32 c0
      obtain ⟨v1, rfl⟩ := w32 c1
      obtain ⟨v2, rfl⟩ := wnat c2
      obtain ⟨v3, rfl⟩ := w32 c3
      obtain ⟨v4, rfl⟩ := w32 c4
      obtain ⟨v5, rfl⟩ := w32 c5
      obtain _ | ⟨R0, al⟩ := al
      obtain ⟨a0, rfl, h0⟩ := R0
      obtain _ | ⟨R1, al⟩ := al
      obtain ⟨a1, rfl, h1⟩ := R1
      cases al
      rw [if_pos (by decide)]
      exact ⟨_, hv, _, atI_nat (j := 0) rfl, _, hv, _, atI_nat (j := 1) rfl, _, hv, _, atI_nat (j := 2) rfl, _, hv, _, atI_nat (j := 3) rfl, _, hv, _, atI_nat (j := 4) rfl, _, hv, _, atI_nat (j := 5) rfl, _, hl, _, atI_nat (j := 0) rfl, _, hl, _, atI_nat (j := 1) rfl, L, x, v0, v1, v2, v3, v4, v5, a0, a1, FfNeutral.bytesOf r0, FfNeutral.bytesOf r1, rfl, st, by rw [bytes_row c6]; exact h0, by rw [bytes_row c7]; exact h1, by rw [bytes_len]; exact few _ (by simp), by rw [bytes_len]; exact few _ (by simp), h.of rfl⟩
    · rename_i v0 v1 v2 v3 v4 v5 e
      injection e with e1 e2
      injection e1 with e0 e1
      subst e0 e1 e2
      simp only [Bool.and_eq_true] at hc
      obtain ⟨c0, c1, c2, c3, c4, c5⟩ := hc
      obtain ⟨v0, rfl⟩ := w32 c0
      obtain ⟨v1, rfl⟩ := w32 c1
      obtain ⟨v2, rfl⟩ := wnat c2
      obtain ⟨v3, rfl⟩ := w32 c3
      obtain ⟨v4, rfl⟩ := w32 c4
      obtain ⟨v5, rfl⟩ := w32 c5
      rw [if_neg (by decide)]
      rw [if_pos (by decide)]
      exact ⟨_, hv, _, atI_nat (j := 0) rfl, _, hv, _, atI_nat (j := 1) rfl, _, hv, _, atI_nat (j := 2) rfl, _, hv, _, atI_nat (j := 3) rfl, _, hv, _, atI_nat (j := 4) rfl, _, hv, _, atI_nat (j := 5) rfl, L, x, v0, v1, v2, v3, v4, v5, rfl, st, h.of rfl⟩
    · rename_i v0 v1 v2 v3 v4 e
      injection e with e1 e2
      injection e1 with e0 e1
      subst e0 e1 e2
      simp only [Bool.and_eq_true] at hc
      obtain ⟨c0, c1, c2, c3, c4⟩ := hc
      obtain ⟨v0, rfl⟩ := w32 c0
      obtain ⟨v1, rfl⟩ := w32 c1
      obtain ⟨v2, rfl⟩ := wnat c2
      obtain ⟨v3, rfl⟩ := w32 c3
      obtain ⟨v4, rfl⟩ := w32 c4
      rw [if_neg (by decide)]
      rw [if_neg (by decide)]
      rw [if_pos (by decide)]
      exact ⟨_, hv, _, atI_nat (j := 0) rfl, _, hv, _, atI_nat (j := 1) rfl, _, hv, _, atI_nat (j := 2) rfl, _, hv, _, atI_nat (j := 3) rfl, _, hv, _, atI_nat (j := 4) rfl, L, x, v0, v1, v2, v3, v4, rfl, st, h.of rfl⟩
    · rename_i v0 v1 v2 v3 v4 r0 e
      injection e with e1 e2
      injection e1 with e0 e1
      subst e0 e1 e2
      simp only [Bool.and_eq_true] at hc
      obtain ⟨c0, c1, c2, c3, c4, c5⟩ := hc
      obtain ⟨v0, rfl⟩ := w32 c0
      obtain ⟨v1, rfl⟩ := w32 c1
      obtain ⟨v2, rfl⟩ := wnat c2
      obtain ⟨v3, rfl⟩ := w32 c3
      obtain ⟨v4, rfl⟩ := w32 c4
      obtain _ | ⟨R0, al⟩ := al
      obtain ⟨a0, rfl, h0⟩ := R0
      cases al
      rw [if_neg (by decide)]
      rw [if_neg (by decide)]
      rw [if_neg (by decide)]
      exact ⟨_, hv, _, atI_nat (j := 0) rfl, _, hv, _, atI_nat (j := 1) rfl, _, hv, _, atI_nat (j := 2) rfl, _, hv, _, atI_nat (j := 3) rfl, _, hv, _, atI_nat (j := 4) rfl, _, hl, _, atI_nat (j := 0) rfl, L, x, v0, v1, v2, v3, v4, a0, FfNeutral.bytesOf r0, rfl, st, by rw [bytes_row c5]; exact h0, by rw [bytes_len]; exact few _ (by simp), h.of rfl⟩
    · rename_i e
      injection e with e1 e2
      injection e1 with e0 e1
      omega
    · rename_i e
      injection e with e1 e2
      injection e1 with e0 e1
      omega
    · rename_i e
      injection e with e1 e2
      injection e1 with e0 e1
      omega
    · rename_i e
      injection e with e1 e2
      injection e1 with e0 e1
      omega
    · rename_i e
      injection e with e1 e2
      injection e1 with e0 e1
      omega
    · rename_i e
      injection e with e1 e2
      injection e1 with e0 e1
      omega
    · rename_i e
      injection e with e1 e2
      injection e1 with e0 e1
      omega
    · rename_i e
      injection e with e1 e2
      injection e1 with e0 e1
      omega
    · rename_i e
      injection e with e1 e2
      injection e1 with e0 e1
      omega
    · rename_i e
      injection e with e1 e2
      injection e1 with e0 e1
      omega
    · rename_i e
      injection e with e1 e2
      injection e1 with e0 e1
      omega
    · cases hc
theorem sc_answer_question : FnScope ["journals", "call", "v"] ["journals", "call", "v"] (defScope s_answer_question) := ⟨rfl, rfl, rfl, by decide +kernel, rfl, by decide +kernel, by decide +kernel⟩
theorem ok_answer_question (T : Tx K mg) : OkF P w K mg base 11 "answer_question" ["journals", "call", "v"] (spAsk (fun p => decide (5 ≤ p ∧ p ≤ 8)) K) := by
  refine okf (d := d_answer_question) 73 73 (N := ["journals", "call", "v"]) T rfl rfl rfl rfl rfl sc_answer_question (fun _ _ _ _ _ _ us hl => match us, hl with | [_, _, _], _ => rfl) (fun vs H Q E h => ?_) (fun f cdv A outer s H vs Q E hr h => ?_)
  · obtain ⟨L, vl, x, p, xs, rows, rfl, st, hv, hc, dm, h⟩ := h
    rfl
  · obtain ⟨L, vl, x, p, xs, rows, rfl, st, hv, hc, dm, h⟩ := h
    have hu := hu_of hr
    refine ⟨_, (pss_cons (ps_if (pt_cmpR op_eq (pv 1) (pe_gi T.i_STANDS) (nomark _)) (pss_one (ps_ret (pe_callF (ok_stands T) (hr.mono (by decide)) (pa_cons (pv 0) (pa_cons (pe_ix ix_list (pv 2) pe_int (fun _ _ => rfl)) (pa_cons (pe_ix ix_list (pv 2) pe_int (fun _ _ => rfl)) (pa_cons (pe_ix ix_list (pv 2) pe_int (fun _ _ => rfl)) (pa_cons (pe_ix ix_list (pv 2) pe_int (fun _ _ => rfl)) pa_nil)))))))) pss_nil)
      (pss_cons (ps_if (pt_cmpR op_eq (pv 1) (pe_gi T.i_HEAD) (nomark _)) (pss_one (ps_ret (pe_callF (ok_head T) (hr.mono (by decide)) (pa_cons (pv 0) (pa_cons (pe_ix ix_list (pv 2) pe_int (fun _ _ => rfl)) (pa_cons (pe_ix ix_list (pv 2) pe_int (fun _ _ => rfl)) (pa_cons (pe_ix ix_list (pv 2) pe_int (fun _ _ => rfl)) (pa_cons (pe_ix ix_list (pv 2) pe_int (fun _ _ => rfl)) (pa_cons (pe_ix ix_list (pv 2) pe_int (fun _ _ => rfl)) pa_nil))))))))) pss_nil)
      (pss_cons (ps_if (pt_cmpR op_eq (pv 1) (pe_gi T.i_SAID) (nomark _)) (pss_one (ps_ret (pe_callF (ok_said T) (hr.mono (by decide)) (pa_cons (pv 0) (pa_cons (pe_ix ix_list (pv 2) pe_int (fun _ _ => rfl)) (pa_cons (pe_ix ix_list (pv 2) pe_int (fun _ _ => rfl)) (pa_cons (pe_ix ix_list (pv 2) pe_int (fun _ _ => rfl)) (pa_cons (pe_ix ix_list (pv 2) pe_int (fun _ _ => rfl)) pa_nil)))))))) pss_nil)
      (pss_one (ps_ret (pe_callF (ok_next_segment T) (hr.mono (by decide)) (pa_cons (pv 0) (pa_cons (pe_ix ix_list (pv 2) pe_int (fun _ _ => rfl)) (pa_cons (pe_ix ix_list (pv 2) pe_int (fun _ _ => rfl)) (pa_cons (pe_ix ix_list (pv 2) pe_int (fun _ _ => rfl)) (pa_cons (pe_ix ix_list (pv 2) pe_int (fun _ _ => rfl)) pa_nil))))))))))), ?_⟩
    simp [tSeq, tIfS, tTest, tOp, rEq, rNe, rI0, rI, tVar, tC, tRet, tNext, L2.start, scal_ii, scal_nn, scal_in, scal_ni, scal_bb, line1, line2, line3, line7, tAnd, tOr, tNot, CDiv, CMul, tAsg, gName, tAndV, tOrV, tNotV, tCall, tCons, tNil, tCB, rU, tUn, tIf, tB, cx_K, cx_noxK, rIxL, rIxT]
    simp only [decide_eq_true_eq] at dm
    unfold FfNeutral.asked1 at hc
    split at hc
    · rename_i e
      injection e with e1 e2
      injection e1 with e0 e1
      omega
    · rename_i e
      injection e with e1 e2
      injection e1 with e0 e1
      omega
    · rename_i e
      injection e with e1 e2
      injection e1 with e0 e1
      omega
    · rename_i e
      injection e with e1 e2
      injection e1 with e0 e1
      omega
    · rename_i v0 v1 v2 v3 e
      injection e with e1 e2
      injection e1 with e0 e1
      subst e0 e1 e2
      simp only [Bool.and_eq_true] at hc
      obtain ⟨c0, c1, c2, c3⟩ := hc
      obtain ⟨v0, rfl⟩ := w32 c0
      obtain ⟨v1, rfl⟩ := w32 c1
      obtain ⟨v2, rfl⟩ := w32 c2
      obtain ⟨v3, rfl⟩ := w32 c3
      rw [if_pos (by decide)]
      exact ⟨_, hv, _, atI_nat (j := 0) rfl, _, hv, _, atI_nat (j := 1) rfl, _, hv, _, atI_nat (j := 2) rfl, _, hv, _, atI_nat (j := 3) rfl, L, x, v0, v1, v2, v3, rfl, st, h.of rfl⟩
    · rename_i v0 v1 v2 v3 v4 e
      injection e with e1 e2
      injection e1 with e0 e1
      subst e0 e1 e2
      simp only [Bool.and_eq_true] at hc
      obtain ⟨c0, c1, c2, c3, c4⟩ := hc
      obtain ⟨v0, rfl⟩ := w32 c0
      obtain ⟨v1, rfl⟩ := w32 c1
      obtain ⟨v2, rfl⟩ := w32 c2
      obtain ⟨v3, rfl⟩ := w32 c3
      obtain ⟨v4, rfl⟩ := w32 c4
      rw [if_neg (by decide)]
      rw [if_pos (by decide)]
      exact ⟨_, hv, _, atI_nat (j := 0) rfl, _, hv, _, atI_nat (j := 1) rfl, _, hv, _, atI_nat (j := 2) rfl, _, hv, _, atI_nat (j := 3) rfl, _, hv, _, atI_nat (j := 4) rfl, L, x, v0, v1, v2, v3, v4, rfl, st, h.of rfl⟩
    · rename_i v0 v1 v2 v3 e
      injection e with e1 e2
      injection e1 with e0 e1
      subst e0 e1 e2
      simp only [Bool.and_eq_true] at hc
      obtain ⟨c0, c1, c2, c3⟩ := hc
      obtain ⟨v0, rfl⟩ := w32 c0
      obtain ⟨v1, rfl⟩ := w32 c1
      obtain ⟨v2, rfl⟩ := w32 c2
      obtain ⟨v3, rfl⟩ := w32 c3
      rw [if_neg (by decide)]
      rw [if_neg (by decide)]
      rw [if_pos (by decide)]
      exact ⟨_, hv, _, atI_nat (j := 0) rfl, _, hv, _, atI_nat (j := 1) rfl, _, hv, _, atI_nat (j := 2) rfl, _, hv, _, atI_nat (j := 3) rfl, L, x, v0, v1, v2, v3, rfl, st, h.of rfl⟩
    · rename_i v0 v1 v2 v3 e
      injection e with e1 e2
      injection e1 with e0 e1
      subst e0 e1 e2
      simp only [Bool.and_eq_true] at hc
      obtain ⟨c0, c1, c2, c3⟩ := hc
      obtain ⟨v0, rfl⟩ := w32 c0
      obtain ⟨v1, rfl⟩ := w32 c1
      obtain ⟨v2, rfl⟩ := w32 c2
      obtain ⟨v3, rfl⟩ := w32 c3
      rw [if_neg (by decide)]
      rw [if_neg (by decide)]
      rw [if_neg (by decide)]
      exact ⟨_, hv, _, atI_nat (j := 0) rfl, _, hv, _, atI_nat (j := 1) rfl, _, hv, _, atI_nat (j := 2) rfl, _, hv, _, atI_nat (j := 3) rfl, L, x, v0, v1, v2, v3, rfl, st, h.of rfl⟩
    · rename_i e
      injection e with e1 e2
      injection e1 with e0 e1
      omega
    · rename_i e
      injection e with e1 e2
      injection e1 with e0 e1
      omega
    · rename_i e
      injection e with e1 e2
      injection e1 with e0 e1
      omega
    · rename_i e
      injection e with e1 e2
      injection e1 with e0 e1
      omega
    · rename_i e
      injection e with e1 e2
      injection e1 with e0 e1
      omega
    · rename_i e
      injection e with e1 e2
      injection e1 with e0 e1
      omega
    · rename_i e
      injection e with e1 e2
      injection e1 with e0 e1
      omega
    · cases hc
theorem nats_row : ∀ {l : List Int}, l.all FfNeutral.wide64 = true → nv (FfNeutral.natsOf l) = l.map V.int
  | [], _ => rfl
  | z :: l, h => by
    rw [List.all_cons, Bool.and_eq_true] at h
    obtain ⟨n, rfl⟩ := wnat (show FfNeutral.natural z 64 = true from h.1)
    show V.int (((n : Int).toNat : Nat) : Int) :: nv (FfNeutral.natsOf l) = V.int (n : Int) :: l.map V.int
    rw [nats_row h.2, Int.toNat_natCast]
theorem nats_len (l : List Int) : (FfNeutral.natsOf l).length = l.length := by
  unfold FfNeutral.natsOf
  rw [List.length_map]
theorem sc_answer_exchange : FnScope ["journals", "call", "v", "rows"] ["journals", "call", "v", "rows"] (defScope s_answer_exchange) := ⟨rfl, rfl, rfl, by decide +kernel, rfl, by decide +kernel, by decide +kernel⟩
theorem ok_answer_exchange (T : Tx K mg) : OkF P w K mg base 11 "answer_exchange" ["journals", "call", "v", "rows"] (spCall (fun p => decide (12 ≤ p ∧ p ≤ 14)) K) := by
  refine okf (d := d_answer_exchange) 74 74 (N := ["journals", "call", "v", "rows"]) T rfl rfl rfl rfl rfl sc_answer_exchange (fun _ _ _ _ _ _ us hl => match us, hl with | [_, _, _, _], _ => rfl) (fun vs H Q E h => ?_) (fun f cdv A outer s H vs Q E hr h => ?_)
  · obtain ⟨L, vl, rl, x, p, xs, rows, rvs, rfl, st, hv, hl, al, hc, few, dm, h⟩ := h
    rfl
  · obtain ⟨L, vl, rl, x, p, xs, rows, rvs, rfl, st, hv, hl, al, hc, few, dm, h⟩ := h
    have hu := hu_of hr
    refine ⟨_, (pss_cons (ps_if (pt_cmpR op_eq (pv 1) (pe_gi T.i_PUT) (nomark _)) (pss_one (ps_ret (pe_callF (ok_put T) (hr.mono (by decide)) (pa_cons (pv 0) (pa_cons (pe_ix ix_list (pv 2) pe_int (fun _ _ => rfl)) (pa_cons (pe_ix ix_list (pv 2) pe_int (fun _ _ => rfl)) (pa_cons (pe_ix ix_list (pv 2) pe_int (fun _ _ => rfl)) (pa_cons (pe_ix ix_list (pv 2) pe_int (fun _ _ => rfl)) (pa_cons (pe_ix ix_list (pv 2) pe_int (fun _ _ => rfl)) (pa_cons (pe_ix ix_list (pv 2) pe_int (fun _ _ => rfl)) (pa_cons (pe_ix ix_list (pv 3) pe_int (fun _ _ => rfl)) (pa_cons (pe_ix ix_list (pv 3) pe_int (fun _ _ => rfl)) (pa_cons (pe_ix ix_list (pv 3) pe_int (fun _ _ => rfl)) pa_nil))))))))))))) pss_nil)
      (pss_cons (ps_if (pt_cmpR op_eq (pv 1) (pe_gi T.i_MERGE) (nomark _)) (pss_one (ps_ret (pe_callF (ok_merge T) (hr.mono (by decide)) (pa_cons (pv 0) (pa_cons (pe_ix ix_list (pv 2) pe_int (fun _ _ => rfl)) (pa_cons (pe_ix ix_list (pv 2) pe_int (fun _ _ => rfl)) pa_nil)))))) pss_nil)
      (pss_one (ps_ret (pe_callF (ok_lacks T) (hr.mono (by decide)) (pa_cons (pv 0) (pa_cons (pe_ix ix_list (pv 2) pe_int (fun _ _ => rfl)) (pa_cons (pe_ix ix_list (pv 2) pe_int (fun _ _ => rfl)) pa_nil)))))))), ?_⟩
    simp [tSeq, tIfS, tTest, tOp, rEq, rNe, rI0, rI, tVar, tC, tRet, tNext, L2.start, scal_ii, scal_nn, scal_in, scal_ni, scal_bb, line1, line2, line3, line7, tAnd, tOr, tNot, CDiv, CMul, tAsg, gName, tAndV, tOrV, tNotV, tCall, tCons, tNil, tCB, rU, tUn, tIf, tB, cx_K, cx_noxK, rIxL, rIxT]
    simp only [decide_eq_true_eq] at dm
    unfold FfNeutral.asked1 at hc
    split at hc
    · rename_i e
      injection e with e1 e2
      injection e1 with e0 e1
      omega
    · rename_i e
      injection e with e1 e2
      injection e1 with e0 e1
      omega
    · rename_i e
      injection e with e1 e2
      injection e1 with e0 e1
      omega
    · rename_i e
      injection e with e1 e2
      injection e1 with e0 e1
      omega
    · rename_i e
      injection e with e1 e2
      injection e1 with e0 e1
      omega
    · rename_i e
      injection e with e1 e2
      injection e1 with e0 e1
      omega
    · rename_i e
      injection e with e1 e2
      injection e1 with e0 e1
      omega
    · rename_i e
      injection e with e1 e2
      injection e1 with e0 e1
      omega
    · rename_i e
      injection e with e1 e2
      injection e1 with e0 e1
      omega
    · rename_i e
      injection e with e1 e2
      injection e1 with e0 e1
      omega
    · rename_i e
      injection e with e1 e2
      injection e1 with e0 e1
      omega
    · rename_i v0 v1 v2 v3 v4 v5 r0 r1 r2 e
      injection e with e1 e2
      injection e1 with e0 e1
      subst e0 e1 e2
      simp only [Bool.and_eq_true] at hc
      obtain ⟨c0, c1, c2, c3, c4, c5, c6, c7, c8⟩ := hc
      obtain ⟨v0, rfl⟩ := w32 c0
      obtain ⟨v1, rfl⟩ := wnat c1
      obtain ⟨v2, rfl⟩ := w32 c2
      obtain ⟨v3, rfl⟩ := w32 c3
      obtain ⟨v4, rfl⟩ := w32 c4
      obtain ⟨v5, rfl⟩ := w32 c5
      obtain _ | ⟨R0, al⟩ := al
      obtain ⟨a0, rfl, h0⟩ := R0
      obtain _ | ⟨R1, al⟩ := al
      obtain ⟨a1, rfl, h1⟩ := R1
      obtain _ | ⟨R2, al⟩ := al
      obtain ⟨a2, rfl, h2⟩ := R2
      cases al
      rw [if_pos (by decide)]
      exact ⟨_, hv, _, atI_nat (j := 0) rfl, _, hv, _, atI_nat (j := 1) rfl, _, hv, _, atI_nat (j := 2) rfl, _, hv, _, atI_nat (j := 3) rfl, _, hv, _, atI_nat (j := 4) rfl, _, hv, _, atI_nat (j := 5) rfl, _, hl, _, atI_nat (j := 0) rfl, _, hl, _, atI_nat (j := 1) rfl, _, hl, _, atI_nat (j := 2) rfl, L, x, v0, v1, v2, v3, v4, v5, a0, a1, a2, FfNeutral.natsOf r0, FfNeutral.bytesOf r1, FfNeutral.bytesOf r2, rfl, st, by rw [nats_row c6]; exact h0, by rw [bytes_row c7]; exact h1, by rw [bytes_row c8]; exact h2, by rw [nats_len]; exact few _ (by simp), by rw [bytes_len]; exact few _ (by simp), by rw [bytes_len]; exact few _ (by simp), h.of rfl⟩
    · rename_i v0 v1 e
      injection e with e1 e2
      injection e1 with e0 e1
      subst e0 e1 e2
      simp only [Bool.and_eq_true] at hc
      obtain ⟨c0, c1⟩ := hc
      obtain ⟨v0, rfl⟩ := w32 c0
      obtain ⟨v1, rfl⟩ := w32 c1
      rw [if_neg (by decide)]
      rw [if_pos (by decide)]
      exact ⟨_, hv, _, atI_nat (j := 0) rfl, _, hv, _, atI_nat (j := 1) rfl, L, x, v0, v1, rfl, st, h.of rfl⟩
    · rename_i v0 v1 e
      injection e with e1 e2
      injection e1 with e0 e1
      subst e0 e1 e2
      simp only [Bool.and_eq_true] at hc
      obtain ⟨c0, c1⟩ := hc
      obtain ⟨v0, rfl⟩ := w32 c0
      obtain ⟨v1, rfl⟩ := w32 c1
      rw [if_neg (by decide)]
      rw [if_neg (by decide)]
      exact ⟨_, hv, _, atI_nat (j := 0) rfl, _, hv, _, atI_nat (j := 1) rfl, L, x, v0, v1, rfl, st, h.of rfl⟩
    · rename_i e
      injection e with e1 e2
      injection e1 with e0 e1
      omega
    · cases hc
theorem sc_answer_overview : FnScope ["journals", "call", "v"] ["journals", "call", "v"] (defScope s_answer_overview) := ⟨rfl, rfl, rfl, by decide +kernel, rfl, by decide +kernel, by decide +kernel⟩
theorem ok_answer_overview (T : Tx K mg) : OkF P w K mg base 11 "answer_overview" ["journals", "call", "v"] (spAsk (fun p => decide ((9 ≤ p ∧ p ≤ 11) ∨ p = 15)) K) := by
  refine okf (d := d_answer_overview) 75 75 (N := ["journals", "call", "v"]) T rfl rfl rfl rfl rfl sc_answer_overview (fun _ _ _ _ _ _ us hl => match us, hl with | [_, _, _], _ => rfl) (fun vs H Q E h => ?_) (fun f cdv A outer s H vs Q E hr h => ?_)
  · obtain ⟨L, vl, x, p, xs, rows, rfl, st, hv, hc, dm, h⟩ := h
    rfl
  · obtain ⟨L, vl, x, p, xs, rows, rfl, st, hv, hc, dm, h⟩ := h
    have hu := hu_of hr
    refine ⟨_, (pss_cons (ps_if (pt_cmpR op_eq (pv 1) (pe_gi T.i_TALLY) (nomark _)) (pss_one (ps_ret (pe_callF (ok_tally T) (hr.mono (by decide)) (pa_cons (pv 0) (pa_cons (pe_ix ix_list (pv 2) pe_int (fun _ _ => rfl)) (pa_cons (pe_ix ix_list (pv 2) pe_int (fun _ _ => rfl)) pa_nil)))))) pss_nil)
      (pss_cons (ps_if (pt_cmpR op_eq (pv 1) (pe_gi T.i_COUNT) (nomark _)) (pss_one (ps_ret (pe_callF (ok_count_records T) (hr.mono (by decide)) (pa_cons (pv 0) (pa_cons (pe_ix ix_list (pv 2) pe_int (fun _ _ => rfl)) pa_nil))))) pss_nil)
      (pss_cons (ps_if (pt_cmpR op_eq (pv 1) (pe_gi T.i_RECORD) (nomark _)) (pss_one (ps_ret (pe_callF (ok_record_at T) (hr.mono (by decide)) (pa_cons (pv 0) (pa_cons (pe_ix ix_list (pv 2) pe_int (fun _ _ => rfl)) (pa_cons (pe_ix ix_list (pv 2) pe_int (fun _ _ => rfl)) (pa_cons (pe_ix ix_list (pv 2) pe_int (fun _ _ => rfl)) pa_nil))))))) pss_nil)
      (pss_one (ps_ret (pe_callF (ok_seen T) (hr.mono (by decide)) (pa_cons (pv 0) (pa_cons (pe_ix ix_list (pv 2) pe_int (fun _ _ => rfl)) (pa_cons (pe_ix ix_list (pv 2) pe_int (fun _ _ => rfl)) (pa_cons (pe_ix ix_list (pv 2) pe_int (fun _ _ => rfl)) pa_nil)))))))))), ?_⟩
    simp [tSeq, tIfS, tTest, tOp, rEq, rNe, rI0, rI, tVar, tC, tRet, tNext, L2.start, scal_ii, scal_nn, scal_in, scal_ni, scal_bb, line1, line2, line3, line7, tAnd, tOr, tNot, CDiv, CMul, tAsg, gName, tAndV, tOrV, tNotV, tCall, tCons, tNil, tCB, rU, tUn, tIf, tB, cx_K, cx_noxK, rIxL, rIxT]
    simp only [decide_eq_true_eq] at dm
    unfold FfNeutral.asked1 at hc
    split at hc
    · rename_i e
      injection e with e1 e2
      injection e1 with e0 e1
      omega
    · rename_i e
      injection e with e1 e2
      injection e1 with e0 e1
      omega
    · rename_i e
      injection e with e1 e2
      injection e1 with e0 e1
      omega
    · rename_i e
      injection e with e1 e2
      injection e1 with e0 e1
      omega
    · rename_i e
      injection e with e1 e2
      injection e1 with e0 e1
      omega
    · rename_i e
      injection e with e1 e2
      injection e1 with e0 e1
      omega
    · rename_i e
      injection e with e1 e2
      injection e1 with e0 e1
      omega
    · rename_i e
      injection e with e1 e2
      injection e1 with e0 e1
      omega
    · rename_i v0 v1 e
      injection e with e1 e2
      injection e1 with e0 e1
      subst e0 e1 e2
      simp only [Bool.and_eq_true] at hc
      obtain ⟨c0, c1⟩ := hc
      obtain ⟨v0, rfl⟩ := w32 c0
      obtain ⟨v1, rfl⟩ := w32 c1
      rw [if_pos (by decide)]
      exact ⟨_, hv, _, atI_nat (j := 0) rfl, _, hv, _, atI_nat (j := 1) rfl, L, x, v0, v1, rfl, st, h.of rfl⟩
    · rename_i v0 e
      injection e with e1 e2
      injection e1 with e0 e1
      subst e0 e1 e2
      have c0 := hc
      obtain ⟨v0, rfl⟩ := w32 c0
      rw [if_neg (by decide)]
      rw [if_pos (by decide)]
      exact ⟨_, hv, _, atI_nat (j := 0) rfl, L, x, v0, rfl, st, h.of rfl⟩
    · rename_i v0 v1 v2 e
      injection e with e1 e2
      injection e1 with e0 e1
      subst e0 e1 e2
      simp only [Bool.and_eq_true] at hc
      obtain ⟨c0, c1, c2⟩ := hc
      obtain ⟨v0, rfl⟩ := w32 c0
      obtain ⟨v1, rfl⟩ := w32 c1
      obtain ⟨v2, rfl⟩ := w32 c2
      rw [if_neg (by decide)]
      rw [if_neg (by decide)]
      rw [if_pos (by decide)]
      exact ⟨_, hv, _, atI_nat (j := 0) rfl, _, hv, _, atI_nat (j := 1) rfl, _, hv, _, atI_nat (j := 2) rfl, L, x, v0, v1, v2, rfl, st, h.of rfl⟩
    · rename_i e
      injection e with e1 e2
      injection e1 with e0 e1
      omega
    · rename_i e
      injection e with e1 e2
      injection e1 with e0 e1
      omega
    · rename_i e
      injection e with e1 e2
      injection e1 with e0 e1
      omega
    · rename_i v0 v1 v2 e
      injection e with e1 e2
      injection e1 with e0 e1
      subst e0 e1 e2
      simp only [Bool.and_eq_true] at hc
      obtain ⟨c0, c1, c2⟩ := hc
      obtain ⟨v0, rfl⟩ := w32 c0
      obtain ⟨v1, rfl⟩ := wnat c1
      obtain ⟨v2, rfl⟩ := wnat c2
      rw [if_neg (by decide)]
      rw [if_neg (by decide)]
      rw [if_neg (by decide)]
      exact ⟨_, hv, _, atI_nat (j := 0) rfl, _, hv, _, atI_nat (j := 1) rfl, _, hv, _, atI_nat (j := 2) rfl, L, x, v0, v1, v2, rfl, st, h.of rfl⟩
    · cases hc
theorem sc_answer_call : FnScope ["journals", "call", "values", "rows"] ["journals", "call", "values", "rows"] (defScope s_answer_call) := ⟨rfl, rfl, rfl, by decide +kernel, rfl, by decide +kernel, by decide +kernel⟩
theorem ok_answer_call (T : Tx K mg) : OkF P w K mg base 12 "answer_call" ["journals", "call", "values", "rows"] (spCall (fun p => decide (1 ≤ p ∧ p ≤ 15)) K) := by
  refine okf (d := d_answer_call) 71 71 (N := ["journals", "call", "values", "rows"]) T rfl rfl rfl rfl rfl sc_answer_call (fun _ _ _ _ _ _ us hl => match us, hl with | [_, _, _, _], _ => rfl) (fun vs H Q E h => ?_) (fun f cdv A outer s H vs Q E hr h => ?_)
  · obtain ⟨L, vl, rl, x, p, xs, rows, rvs, rfl, st, hv, hl, al, hc, few, dm, h⟩ := h
    rfl
  · obtain ⟨L, vl, rl, x, p, xs, rows, rvs, rfl, st, hv, hl, al, hc, few, dm, h⟩ := h
    have hu := hu_of hr
    refine ⟨_, (pss_cons (ps_if (pt_cmpR op_le (pv 1) (pe_gi T.i_REMARK_journals) (nomark _)) (pss_one (ps_ret (pe_callF (ok_answer_entry T) (hr.mono (by decide)) (pa_cons (pv 0) (pa_cons (pv 1) (pa_cons (pv 2) (pa_cons (pv 3) pa_nil))))))) pss_nil)
      (pss_cons (ps_if (pt_cmpR op_le (pv 1) (pe_gi T.i_NEXT) (nomark _)) (pss_one (ps_ret (pe_callF (ok_answer_question T) (hr.mono (by decide)) (pa_cons (pv 0) (pa_cons (pv 1) (pa_cons (pv 2) pa_nil)))))) pss_nil)
      (pss_cons (ps_if (pt_cmpR op_in_seq (pv 1) (pe_tup (pa_cons (pe_gi T.i_PUT) (pa_cons (pe_gi T.i_MERGE) (pa_cons (pe_gi T.i_LACKS) pa_nil)))) (by rfl)) (pss_one (ps_ret (pe_callF (ok_answer_exchange T) (hr.mono (by decide)) (pa_cons (pv 0) (pa_cons (pv 1) (pa_cons (pv 2) (pa_cons (pv 3) pa_nil))))))) pss_nil)
      (pss_one (ps_ret (pe_callF (ok_answer_overview T) (hr.mono (by decide)) (pa_cons (pv 0) (pa_cons (pv 1) (pa_cons (pv 2) pa_nil))))))))), ?_⟩
    simp [tSeq, tIfS, tTest, tOp, rEq, rNe, rI0, rI, tVar, tC, tRet, tNext, L2.start, scal_ii, scal_nn, scal_in, scal_ni, scal_bb, line1, line2, line3, line7, tAnd, tOr, tNot, CDiv, CMul, tAsg, gName, tAndV, tOrV, tNotV, tCall, tCons, tNil, tCB, rU, tUn, tIf, tB, cx_K, cx_noxK, rIxL, rIxT, tTup, rIn]
    simp only [decide_eq_true_eq] at dm
    by_cases c : p ≤ 4
    · rw [if_pos c]
      exact ⟨L, vl, rl, x, p, xs, rows, rvs, rfl, st, hv, hl, al, hc, few, by simpa using c, h⟩
    rw [if_neg c]
    by_cases c8 : p ≤ 8
    · rw [if_pos c8]
      exact ⟨L, vl, x, p, xs, rows, rfl, st, hv, hc, by simp; omega, h⟩
    rw [if_neg c8]
    refine fun q hq => ⟨_, .inr (SqT.of upd_same), rfl, by simp [flatV], ?_⟩
    have sq := same_upd (o := .tup [.int 12, .int 13, .int 14]) hq
    have st := st.same sq
    have hv := sq.seq hv
    have hl := sq.seq hl
    have al := al.mono fun _ _ z => RowV.same sq z
    have h := h.up sq
    clear sq
    generalize upd H q (.tup [.int 12, .int 13, .int 14]) = H1 at *
    have ei : inV (.int p) [.int 12, .int 13, .int 14] = decide (12 ≤ p ∧ p ≤ 14) := by
      rw [Bool.eq_iff_iff, decide_eq_true_eq]
      simp [inV, eqV]
      omega
    rw [ei]
    by_cases c14 : 12 ≤ p ∧ p ≤ 14
    · rw [if_pos (decide_eq_true c14)]
      exact ⟨L, vl, rl, x, p, xs, rows, rvs, rfl, st, hv, hl, al, hc, few, by simpa using c14, h⟩
    · rw [if_neg (by rw [decide_eq_false c14]; decide)]
      exact ⟨L, vl, x, p, xs, rows, rfl, st, hv, hc, by simp; omega, h⟩
end
end Fj
set_option Elab.async false
set_option linter.all false
set_option maxRecDepth 100000
set_option maxHeartbeats 4000000
namespace Fj
open PySem PySem.Spec PyProof.Rows L2
open Fh (Bytes Piece)
open FhWork (Rec Journal Name)
theorem journal_made {K : PySem.W.Frag} {H H' : Hp} {x dx d : Addr} (nx : H x = none) (ndx : H dx = none) (hd : upd (upd H dx (.own x)) x (.ins (He.ga K "Journal") dx []) d = none) (e1 : H' x = some (.ins (He.ga K "Journal") dx [("records", .ref d)])) (e2 : H' d = some (.dK []))
    (kp : ∀ b o, upd (upd H dx (.own x)) x (.ins (He.ga K "Journal") dx []) b = some o → b ≠ x → H' b = some o) : Same H H' ∧ JAt K H' x d [] ∧ H d = none := by
  have s0 : Same H (upd (upd H dx (.own x)) x (.ins (He.ga K "Journal") dx [])) := fun b o e => by
    rw [upd_ne (ne_of_none e nx), upd_ne (ne_of_none e ndx)]
    exact e
  exact ⟨Same.made nx ndx kp, ⟨⟨dx, e1⟩, ⟨[], e2, .refl _, by simp⟩, jok_nil⟩, s0.free hd⟩
/-- between two calls -/
structure AnI (K : PySem.W.Frag) (H : Hp) (a L t : Addr) (cs : List FfNeutral.Call) (m : Nat) (σ : L2.St) (H' : Hp) : Prop where
  ex : ∃ (ds es : List FfNeutral.Call) (u4 u5 u6 u7 u8 u9 u10 : Option V), cs = ds ++ es ∧ m = es.length ∧ σ = [some (.ref a), some (.ref L), some (.ref t), some (.int ((PyFlat.put ds).length : Nat)), u4, u5, u6, u7, u8, u9, u10] ∧ Fr H H' ∧
    StAt K (del H' t) L (after FfNeutral.start ds) ∧ H' t = some (.lst ((PyFlat.told (PyFlat.played FfNeutral.step FfNeutral.start ds)).map V.int))
theorem Fr.seq {K : PySem.W.Frag} {H H' : Hp} (f : Fr H H') {a : Addr} {xs : List V} (h : SqL K H a xs) : SqL K H' a xs := by
  rcases h with h | h
  · rcases h with h | ⟨o, h⟩
    · exact .inl (.inl (f _ _ h (by intro k z; cases z)))
    · exact .inl (.inr ⟨o, f _ _ h (by intro k z; cases z)⟩)
  · exact .inr h
theorem same_tup {K : PySem.W.Frag} {H H' : Hp} (s : Same H H') {a : Addr} {xs : List V} (h : SqT K H a xs) : SqT K H' a xs := by
  rcases h with h | h
  · rcases h with h | ⟨o, h⟩
    · exact .inl (.inl (s _ _ h))
    · exact .inl (.inr ⟨o, s _ _ h⟩)
  · exact .inr h
def RowI (R t : Addr) (H : Hp) (v : V) (r : List Int) : Prop := ∃ a, v = .ref a ∧ a ≠ R ∧ a ≠ t ∧ H a = some (.lst (r.map V.int))
section
variable {P : Program} {w : World} {K : PySem.W.Frag} {mg : Str → Option Value} {base : Heap}
def spAnswers (dom : Int → Bool) (K : PySem.W.Frag) : Sp := fun vs H Q _ => ∃ (a : Addr) (cs : List FfNeutral.Call), vs = [.ref a] ∧ SqL K H a ((PyFlat.put cs).map V.int) ∧
  (∀ c ∈ cs, ∃ p xs rows, c = (p :: xs) :: rows ∧ tab_FORMS.lookup p = some [((xs.length : Nat) : Int), ((rows.length : Nat) : Int)] ∧ FfNeutral.asked1 c = true ∧ (∀ r ∈ rows, r.length ≤ 20000) ∧ rows.length ≤ 3 ∧ dom p = true) ∧
  (PyFlat.told (PyFlat.played FfNeutral.step FfNeutral.start cs)).length ≤ 10000000 ∧ ∀ H' p, Fr H H' → H' p = some (.lst ((PyFlat.told (PyFlat.played FfNeutral.step FfNeutral.start cs)).map V.int)) → Q (.ref p) H'
theorem sc_answers : FnScope ["calls", "journals", "told", "place", "call", "form", "values", "rows", "turn", "first", "answer"] ["calls"] (defScope s_answers) := ⟨rfl, rfl, rfl, by decide +kernel, rfl, by decide +kernel, by decide +kernel⟩
noncomputable def fd_answers (T : Tx K mg) : FuncData := Classical.choose (T.says.def_ 70 (d := d_answers) rfl)
theorem fn_answers (T : Tx K mg) : FunD K "answers" "answers" (defArgs s_answers) (defBody s_answers) (defScope s_answers) [] [] (He.ga K "answers") (fd_answers T) := Classical.choose_spec (T.says.def_ 70 (d := d_answers) rfl)
theorem b_answers (T : Tx K mg) : Binds K (fd_answers T) ["calls"] [] := FunD.bindsN (fn_answers T) (fun _ _ _ _ _ _ us hl => match us, hl with | [_], _ => rfl)
theorem ok_answers (T : Tx K mg) : FnOk P w K mg base CX0 13 (He.ga K "answers") (fd_answers T) ["calls"] (spAnswers (fun p => decide (1 ≤ p ∧ p ≤ 15)) K) := by
  refine FunD.ok (fn_answers T) sc_answers (fun vs H Q E h => ?_) (fun cdv A outer s H vs Q E hr h => ok_nox ?_)
  · obtain ⟨a, cs, rfl, hA, hc, lt, h⟩ := h
    rfl
  · obtain ⟨a, cs, rfl, hA, hc, lt, h⟩ := h
    have hu := hu_of hr
    refine ⟨_, (pss_cons (ps_set (i := 1) sc_answers.nd rfl (Or.inl rfl) (pe_lst (pa_cons (pe_make0 T.k_Journal (ok_Journal_init T) (hr.mono (by decide)) rfl T.g_Journal (b_Journal_init T) .nil pass0) (pa_cons (pe_make0 T.k_Journal (ok_Journal_init T) (hr.mono (by decide)) rfl T.g_Journal (b_Journal_init T) .nil pass0) (pa_cons (pe_make0 T.k_Journal (ok_Journal_init T) (hr.mono (by decide)) rfl T.g_Journal (b_Journal_init T) .nil pass0) pa_nil)))))
      (pss_cons (ps_set (i := 2) sc_answers.nd rfl (Or.inl rfl) (pe_lst pa_nil))
      (pss_cons (ps_set (i := 3) sc_answers.nd rfl (Or.inl rfl) pe_int)
      (pss_cons (ps_while PassesOwn.never (pt_cmpR op_lt (pv 3) (pe_callB call_len_seq (by rfl) T.b_len PySem.boot_len (pa_cons (pv 0) pa_nil)) (nomark _)) (pss_cons (ps_set (i := 4) sc_answers.nd rfl (Or.inl rfl) (pe_ix ix_list (pv 0) (pv 3) (fun _ _ => rfl)))
      (pss_cons (ps_set (i := 5) sc_answers.nd rfl (Or.inl rfl) (pe_tab T.d_FORMS (pe_gr T.g_FORMS) (pv 4) (fun _ _ => rfl)))
      (pss_cons (ps_set (i := 6) sc_answers.nd rfl (Or.inl rfl) (pe_slice sl_list (pv 0) (po_some (pe_op op_add (pv 3) pe_int)) (po_some (pe_op op_add (pe_op op_add (pv 3) pe_int) (pe_ix ix_tup (pv 5) pe_int (fun _ _ => rfl))))))
      (pss_cons (ps_set (i := 3) sc_answers.nd rfl (Or.inl rfl) (pe_op op_add (pe_op op_add (pv 3) pe_int) (pe_ix ix_tup (pv 5) pe_int (fun _ _ => rfl))))
      (pss_cons (ps_set (i := 7) sc_answers.nd rfl (Or.inl rfl) (pe_lst pa_nil))
      (pss_cons (ps_for PassesOwn.never rfl (pi_range1 (by rfl) T.b_range (pa_cons (pe_ix ix_tup (pv 5) pe_int (fun _ _ => rfl)) pa_nil)) (pg_name (i := 8) sc_answers.nd rfl (Or.inl rfl))
        (pss_cons (ps_set (i := 9) sc_answers.nd rfl (Or.inl rfl) (pe_op op_add (pv 3) pe_int))
      (pss_cons (ps_set (i := 3) sc_answers.nd rfl (Or.inl rfl) (pe_op op_add (pv 9) (pe_ix ix_list (pv 0) (pv 3) (fun _ _ => rfl))))
      (pss_one (ps_expr (pe_bm PySem.F.plainAttrs_list PySem.F.slot_list_append PySem.F.type_list_append mt_append (pv 7) (pa_cons (pe_slice sl_list (pv 0) (po_some (pv 9)) (po_some (pv 3))) pa_nil)))))))
      (pss_cons (ps_set (i := 10) sc_answers.nd rfl (Or.inl rfl) (pe_lock (pe_callF (ok_answer_call T) (hr.mono (by decide)) (pa_cons (pv 1) (pa_cons (pv 4) (pa_cons (pv 6) (pa_cons (pv 7) pa_nil)))))))
      (pss_cons (ps_expr (pe_bm PySem.F.plainAttrs_list PySem.F.slot_list_append PySem.F.type_list_append mt_append (pv 2) (pa_cons (pe_callB call_len_seq (by rfl) T.b_len PySem.boot_len (pa_cons (pv 10) pa_nil)) pa_nil)))
      (pss_one (ps_expr (pe_bm PySem.F.plainAttrs_list PySem.F.slot_list_extend PySem.F.type_list_extend mt_extend (pv 2) (pa_cons (pv 10) pa_nil)))))))))))))
      (pss_one (ps_ret (pv 2))))))), ?_⟩
    simp [tSeq, tIfS, tTest, tOp, rEq, rNe, rI0, rI, tVar, tC, tRet, tNext, L2.start, scal_ii, scal_nn, scal_in, scal_ni, scal_bb, line1, line2, line3, line7, tAnd, tOr, tNot, CDiv, CMul, tAsg, gName, tAndV, tOrV, tNotV, tCall, tCons, tNil, tCB, rU, tUn, tIf, tB, cx_K, cx_noxK, rIxL, rIxT, tMake, tLst]
    intro x0 dx0 n0 nd0 ne0
    refine ⟨x0, dx0, rfl, upd_same, fun d0 H1 hd0 e01 e02 k0 => ⟨rfl, ?_⟩⟩
    obtain ⟨s1, J0, f0⟩ := journal_made n0 nd0 hd0 e01 e02 k0
    intro x1 dx1 n1 nd1 ne1
    refine ⟨x1, dx1, rfl, upd_same, fun d1 H2 hd1 e11 e12 k1 => ⟨rfl, ?_⟩⟩
    obtain ⟨s2, J1, f1⟩ := journal_made n1 nd1 hd1 e11 e12 k1
    intro x2 dx2 n2 nd2 ne2
    refine ⟨x2, dx2, rfl, upd_same, fun d2 H3 hd2 e21 e22 k2 => ⟨rfl, ?_⟩⟩
    obtain ⟨s3, J2, f2⟩ := journal_made n2 nd2 hd2 e21 e22 k2
    intro L hL t ht
    have sL := same_upd (o := .lst [.ref x0, .ref x1, .ref x2]) hL
    have sT := same_upd (o := .lst []) ht
    have d01 : d0 ≠ d1 := fun z => by rw [← z, e02] at f1; cases f1
    have d02 : d0 ≠ d2 := fun z => by rw [← z, s2 _ _ e02] at f2; cases f2
    have d12 : d1 ≠ d2 := fun z => by rw [← z, e12] at f2; cases f2
    have sA := (((s1.trans s2).trans s3).trans sL).trans sT
    have sD : Same (upd H3 L (.lst [.ref x0, .ref x1, .ref x2])) (del (upd (upd H3 L (.lst [.ref x0, .ref x1, .ref x2])) t (.lst [])) t) := fun b o e => by
      rw [del_ne (ne_of_none e ht)]
      exact sT _ _ e
    have st : StAt K (del (upd (upd H3 L (.lst [.ref x0, .ref x1, .ref x2])) t (.lst [])) t) L FfNeutral.start :=
      StAt.same sD ⟨x0, x1, x2, d0, d1, d2, upd_same, J0.same ((s2.trans s3).trans sL), J1.same (s3.trans sL), J2.same sL, d01, d02, d12⟩
    have ht0 : H t = none := (((s1.trans s2).trans s3).trans sL).free ht
    clear sD
    have hT : upd (upd H3 L (.lst [.ref x0, .ref x1, .ref x2])) t (.lst []) t = some (.lst []) := upd_same
    generalize upd (upd H3 L (.lst [.ref x0, .ref x1, .ref x2])) t (.lst []) = H4 at *
    refine ⟨AnI K H a L t cs, ⟨_, ⟨[], cs, _, _, _, _, _, _, _, rfl, rfl, rfl, Fr.of sA, st, hT⟩⟩, ?_⟩
    clear st hT sA
    rintro m σ H5 ⟨ds, es, u4, u5, u6, u7, u8, u9, u10, rfl, rfl, rfl, fr, st, hT⟩
    have hA5 := fr.seq hA
    have hput : PyFlat.put (ds ++ es) = PyFlat.put ds ++ PyFlat.put es := put_app es ds
    rw [hput] at hA5
    simp [tSeq, tIfS, tTest, tOp, rEq, rNe, rI0, rI, tVar, tC, tRet, tNext, L2.start, scal_ii, scal_nn, scal_in, scal_ni, scal_bb, line1, line2, line3, line7, tAnd, tOr, tNot, CDiv, CMul, tAsg, gName, tAndV, tOrV, tNotV, tCall, tCons, tNil, tCB, rU, tUn, tIf, tB, cx_K, cx_noxK, rIxL, rIxT, tTab, rExtend, tDrop]
    refine ⟨_, .inl hA5, ?_⟩
    rw [List.length_map, List.length_append]
    cases es with
    | nil =>
      rw [if_neg (by show ¬ (_ < _ + 0); omega)]
      rw [List.append_nil] at h
      exact h _ _ fr hT
    | cons c es =>
      obtain ⟨p, xs, rows, rfl, htab, hask, hfew, hk3, hdm⟩ := hc c (by simp)
      have hp1 : PyFlat.put (((p :: xs) :: rows) :: es) = p :: (xs ++ (PyFlat.putRows rows ++ PyFlat.put es)) := by
        show ((p :: xs) ++ PyFlat.putRows rows) ++ PyFlat.put es = _
        rw [List.append_assoc]
        rfl
      rw [if_pos (by rw [hp1]; simp)]
      rw [hp1] at hA5
      refine ⟨fun σ' H' => ∃ m', m' < (((p :: xs) :: rows) :: es).length ∧ AnI K H a L t (ds ++ ((p :: xs) :: rows) :: es) m' σ' H', fun _ _ z => z, ?_⟩
      refine ⟨_, hA5, _, at_mid _ _ _ rfl, ?_⟩
      refine ⟨p, rfl, _, htab, fun tf htf => ?_⟩
      generalize hn0 : (PyFlat.put ds).length = n0
      refine ⟨_, rfl, _, rfl, _, _, rfl, rfl, _, rfl, _, rfl, _, _, rfl, rfl, _, rfl, tf, _, _, _, rfl, rfl, htf, atI_nat (j := 0) rfl, _, _, rfl, rfl, _, rfl, a, _, rfl, hA5, fun vl hvl => ?_⟩
      have ecut : cutV ((PyFlat.put ds ++ p :: (xs ++ (PyFlat.putRows rows ++ PyFlat.put es))).map V.int) (some ((n0 : Nat) + 1)) (some ((n0 : Nat) + 1 + ((xs.length : Nat) : Int))) = xs.map V.int := by
        have z := cut_mid (PyFlat.put ds ++ [p]) xs (PyFlat.putRows rows ++ PyFlat.put es) (a := (n0 : Nat) + 1) (b := (n0 : Nat) + 1 + ((xs.length : Nat) : Int)) (by rw [List.length_append, hn0]; rfl) (by rw [List.length_append, hn0]; simp)
        rw [List.append_assoc] at z
        exact z
      rw [ecut]
      have sv := same_upd (o := .lst (xs.map V.int)) hvl
      have hvl6 : upd H5 vl (.lst (xs.map V.int)) vl = some (.lst (xs.map V.int)) := upd_same
      have hA6 := sv.seq hA5
      have htf6 := htf
      have htf : SqT K (upd H5 vl (.lst (xs.map V.int))) tf _ := same_tup sv htf6
      clear htf6
      have s56 := sv
      have hT6 := sv _ _ hT
      have fr6 := fr.trans (Fr.of sv)
      have ht5 : H5 vl = none := hvl
      clear fr hA5
      generalize upd H5 vl (.lst (xs.map V.int)) = H6 at *
      refine ⟨_, htf, _, atI_nat (j := 0) rfl, _, rfl, Nat.zero_le _, fun R hR => ?_⟩
      have sR := same_upd (o := .lst []) hR
      have hR7 : upd H6 R (.lst []) R = some (.lst []) := upd_same
      generalize upd H6 R (.lst []) = H7 at *
      refine ⟨_, rfl, tf, _, _, _, rfl, rfl, same_tup sR htf, atI_nat (j := 1) rfl, _, rfl, by omega, by omega, for_range (lo := 0) (n := rows.length) (fun i σ H8 => ∃ (rvs : List V) (u8 u9 : Option V), σ = [some (.ref a), some (.ref L), some (.ref t), some (.int (n0 + 1 + xs.length + (PyFlat.putRows (rows.take i)).length : Nat)), some (.int p), some (.ref tf), some (.ref vl), some (.ref R), u8, u9, u10] ∧ Same H6 H8 ∧ H8 R = some (.lst rvs) ∧ All2 (RowI R t H8) rvs (rows.take i))
        ⟨[], _, _, by rfl, sR, hR7, .nil⟩ ?_ ?_⟩
      · rintro i σ H8 hi ⟨rvs, w8, w9, rfl, s8, hR8, al⟩
        have hr : rows[i]? = some (rows[i]'hi) := List.getElem?_eq_getElem hi
        generalize rows[i]'hi = r at *
        have hA8 := s8.seq hA6
        have el : PyFlat.put ds ++ p :: (xs ++ (PyFlat.putRows rows ++ PyFlat.put es)) = (PyFlat.put ds ++ (p :: (xs ++ PyFlat.putRows (rows.take i)))) ++ (((r.length : Nat) : Int) :: (r ++ (PyFlat.putRows (rows.drop (i + 1)) ++ PyFlat.put es))) := by
          rw [rows_cut i hr]
          simp only [List.append_assoc, List.cons_append]
        have en : (PyFlat.put ds ++ (p :: (xs ++ PyFlat.putRows (rows.take i)))).length = n0 + 1 + xs.length + (PyFlat.putRows (rows.take i)).length := by
          rw [List.length_append, List.length_cons, List.length_append, hn0]
          omega
        rw [el] at hA8
        generalize PyFlat.put ds ++ (p :: (xs ++ PyFlat.putRows (rows.take i))) = A0 at *
        simp [tSeq, tIfS, tTest, tOp, rEq, rNe, rI0, rI, tVar, tC, tRet, tNext, L2.start, scal_ii, scal_nn, scal_in, scal_ni, scal_bb, line1, line2, line3, line7, tAnd, tOr, tNot, CDiv, CMul, tAsg, gName, tAndV, tOrV, tNotV, tCall, tCons, tNil, tCB, rU, tUn, tIf, tB, cx_K, cx_noxK, rIxL, rIxT, rAppend, tSl, tPart, rSlL, tBM]
        refine ⟨_, hA8, _, at_mid _ _ _ (by rw [en]; omega), _, rfl, ?_⟩
        have el2 : A0 ++ (((r.length : Nat) : Int) :: (r ++ (PyFlat.putRows (rows.drop (i + 1)) ++ PyFlat.put es))) = (A0 ++ [((r.length : Nat) : Int)]) ++ (r ++ (PyFlat.putRows (rows.drop (i + 1)) ++ PyFlat.put es)) := by rw [List.append_assoc]; rfl
        rw [el2] at hA8
        refine ⟨_, rfl, .inl ⟨rfl, _, SqL.of hR8⟩, _, rfl, _, rfl, _, rfl, _, rfl, _, rfl, a, _, rfl, hA8, fun q hq => ?_⟩
        rw [cut_mid (A0 ++ [((r.length : Nat) : Int)]) r _ (by rw [List.length_append, en]; simp) (by rw [List.length_append, en]; simp)]
        have sq := same_upd (o := .lst (r.map V.int)) hq
        have qR : q ≠ R := (ne_of_none hR8 hq).symm
        have lr : rvs.length ≤ 3 := by
          rw [al.len, List.length_take]
          omega
        refine ⟨R, rvs, _, rfl, rfl, sq _ _ hR8, Nat.lt_of_le_of_lt lr (by decide), ⟨some (.int ((i : Nat) : Int)), some (.int ((n0 : Nat) + 1 + ((xs.length : Nat) : Int) + (((PyFlat.putRows (rows.take i)).length : Nat) : Int) + 1)), ?_⟩, fun b o z => ?_, rvs ++ [.ref q], upd_same, ?_⟩
        rotate_left
        · have z8 := s8 _ _ z
          rw [upd_ne (ne_of_none z hR)]
          exact sq _ _ z8
        · have al2 : All2 (RowI R t (upd (upd H8 q (.lst (r.map V.int))) R (.lst (rvs ++ [.ref q])))) rvs (rows.take i) := al.mono (by
            rintro v' r' ⟨b, rfl, nb, nt, hb⟩
            exact ⟨b, rfl, nb, nt, by rw [upd_ne nb]; exact sq _ _ hb⟩)
          rw [take_snoc hr]
          exact al2.snoc ⟨q, rfl, qR, (ne_of_none (s8 _ _ hT6) hq).symm, by rw [upd_ne qR, upd_same]⟩
        · have ep : ((n0 : Nat) : Int) + 1 + ((xs.length : Nat) : Int) + (((PyFlat.putRows (rows.take i)).length : Nat) : Int) + 1 + ((r.length : Nat) : Int) = ((n0 : Nat) : Int) + 1 + ((xs.length : Nat) : Int) + (((PyFlat.putRows (rows.take (i + 1))).length : Nat) : Int) := by
            rw [take_snoc hr, rows_snoc, List.length_append, List.length_cons]
            omega
          rw [ep]
      · rintro σ H8 ⟨rvs, w8, w9, rfl, s8, hR8, al⟩
        rw [List.take_length] at al ⊢
        simp [tSeq, tIfS, tTest, tOp, rEq, rNe, rI0, rI, tVar, tC, tRet, tNext, L2.start, scal_ii, scal_nn, scal_in, scal_ni, scal_bb, line1, line2, line3, line7, tAnd, tOr, tNot, CDiv, CMul, tAsg, gName, tAndV, tOrV, tNotV, tCall, tCons, tNil, tCB, rU, tUn, tIf, tB, cx_K, cx_noxK, rIxL, rIxT, rAppend, rExtend, tDrop, tBM]
        have hT8 := s8 _ _ hT6
        refine ⟨t, _, hT8, trivial, fun od => ?_⟩
        have kf : ∀ b o, H8 b = some o → b ≠ t → upd H8 t (.frz od (.lst ((PyFlat.told (PyFlat.played FfNeutral.step FfNeutral.start ds)).map V.int))) b = some o := fun b o e c => by rw [upd_ne c]; exact e
        have htf9 : upd H8 t (.frz od (.lst ((PyFlat.told (PyFlat.played FfNeutral.step FfNeutral.start ds)).map V.int))) t = some (.frz od (.lst ((PyFlat.told (PyFlat.played FfNeutral.step FfNeutral.start ds)).map V.int))) := upd_same
        generalize upd H8 t (.frz od (.lst ((PyFlat.told (PyFlat.played FfNeutral.step FfNeutral.start ds)).map V.int))) = Hf at *
        have stf : StAt K Hf L (after FfNeutral.start ds) := st.same (del_same fun b o e c => kf b o (s8 _ _ (s56 _ _ e)) c)
        refine ⟨_, rfl, _, rfl, _, rfl, _, rfl, L, vl, R, after FfNeutral.start ds, p, xs, rows, rvs, rfl, stf, SqL.of (kf _ _ (s8 _ _ hvl6) (ne_of_none hT hvl).symm), SqL.of (kf _ _ hR8 (ne_of_none hT6 hR).symm), al.mono (fun _ _ ⟨b, e, _, nt, hb⟩ => ⟨b, e, kf _ _ hb nt⟩), hask, hfew, (by simpa using hdm), fun H9 q f9 st9 nq hq => ?_⟩
        have hT9 : H9 t = _ := f9 _ _ htf9 (by intro k z; cases z)
        have qt : q ≠ t := ne_of hq hT9 (by intro z; cases z)
        refine ⟨hT9, ?_⟩
        have q1 : ∀ o, upd H9 t o q = some (.lst ((FfNeutral.step (after FfNeutral.start ds) ((p :: xs) :: rows)).2.map V.int)) := fun o => by rw [upd_ne qt]; exact hq
        have elt : PyFlat.told (PyFlat.played FfNeutral.step FfNeutral.start (ds ++ [(p :: xs) :: rows])) = PyFlat.told (PyFlat.played FfNeutral.step FfNeutral.start ds) ++ ((((FfNeutral.step (after FfNeutral.start ds) ((p :: xs) :: rows)).2.length : Nat) : Int) :: (FfNeutral.step (after FfNeutral.start ds) ((p :: xs) :: rows)).2) := by
          rw [played_app, told_app]
          show _ ++ ((_ :: _) ++ []) = _
          rw [List.append_nil]
        have bound : (PyFlat.told (PyFlat.played FfNeutral.step FfNeutral.start ds)).length + (FfNeutral.step (after FfNeutral.start ds) ((p :: xs) :: rows)).2.length + 1 ≤ 10000000 := by
          have z := lt
          rw [show ds ++ ((p :: xs) :: rows) :: es = (ds ++ [(p :: xs) :: rows]) ++ es by rw [List.append_assoc]; rfl, played_app, told_app, elt] at z
          rw [List.length_append, List.length_append, List.length_cons] at z
          omega
        have big : (10000000 : Nat) < sizeLine := by decide
        generalize hans : (FfNeutral.step (after FfNeutral.start ds) ((p :: xs) :: rows)).2 = ans at *
        generalize hold : PyFlat.told (PyFlat.played FfNeutral.step FfNeutral.start ds) = old at *
        refine ⟨.inl ⟨rfl, _, SqL.of upd_same⟩, q, rfl, _, .inl (SqL.of (q1 _)), _, upd_same, ?_, .inl ⟨rfl, _, SqL.of upd_same⟩, q, rfl, _, upd_same, ans.map V.int, ?_, ?_, es.length, Nat.lt_succ_self _, ?_⟩
        · rw [List.length_map]
          omega
        · rw [upd_upd]
          exact q1 _
        · rw [List.length_append, List.length_map, List.length_map]
          show old.length + 1 + ans.length ≤ sizeLine
          omega
        · refine ⟨ds ++ [(p :: xs) :: rows], es, some (.int p), some (.ref tf), some (.ref vl), some (.ref R), w8, w9, some (.ref q), ?_, rfl, ?_, ?_, ?_, ?_⟩
          rotate_left
          · have ep : ((n0 : Nat) : Int) + 1 + ((xs.length : Nat) : Int) + (((PyFlat.putRows rows).length : Nat) : Int) = (((PyFlat.put (ds ++ [(p :: xs) :: rows])).length : Nat) : Int) := by
              rw [put_app, List.length_append, hn0]
              have : (PyFlat.put [(p :: xs) :: rows]).length = xs.length + 1 + (PyFlat.putRows rows).length := by
                show (((p :: xs) ++ PyFlat.putRows rows) ++ []).length = _
                rw [List.append_nil, List.length_append, List.length_cons]
              rw [this]
              omega
            rw [ep]
          · intro b o e nd
            have c : b ≠ t := ne_of_none e ht0
            rw [upd_ne c, upd_ne c, upd_ne c]
            exact f9 _ _ (kf _ _ (s8 _ _ (fr6 _ _ e nd)) c) nd
          · rw [after_snoc]
            refine StAt.same ?_ (st9.del hT9)
            intro b o e
            by_cases c : b = t
            · unfold del at e
              rw [if_pos c] at e
              cases e
            · rw [del_ne c] at e
              rw [del_ne c, upd_ne c, upd_ne c, upd_ne c]
              exact e
          · rw [upd_same, elt, List.map_append, List.append_assoc, List.length_map]
            rfl
          · rw [List.append_assoc]
            rfl
end
end Fj
set_option Elab.async false
set_option linter.all false
set_option maxRecDepth 100000
set_option maxHeartbeats 4000000
namespace Fj
open PySem PySem.Spec PyProof.Rows L2
/-! ## The end: what is asked, and the whole -/
theorem form_of {p : Int} {n k : Nat} (h : PyYqfhfa.shape p = some (n, k)) : tab_FORMS.lookup p = some [((n : Nat) : Int), ((k : Nat) : Int)] ∧ k ≤ 3 ∧ 1 ≤ p ∧ p ≤ 15 := by
  unfold PyYqfhfa.shape at h
  by_cases c1 : p = 1
  · rw [if_pos c1] at h
    injection h with h
    injection h with h1 h2
    subst h1 h2 c1
    exact ⟨rfl, by decide, by decide, by decide⟩
  rw [if_neg c1] at h
  by_cases c2 : p = 2
  · rw [if_pos c2] at h
    injection h with h
    injection h with h1 h2
    subst h1 h2 c2
    exact ⟨rfl, by decide, by decide, by decide⟩
  rw [if_neg c2] at h
  by_cases c3 : p = 3
  · rw [if_pos c3] at h
    injection h with h
    injection h with h1 h2
    subst h1 h2 c3
    exact ⟨rfl, by decide, by decide, by decide⟩
  rw [if_neg c3] at h
  by_cases c4 : p = 4
  · rw [if_pos c4] at h
    injection h with h
    injection h with h1 h2
    subst h1 h2 c4
    exact ⟨rfl, by decide, by decide, by decide⟩
  rw [if_neg c4] at h
  by_cases c5 : p = 5
  · rw [if_pos c5] at h
    injection h with h
    injection h with h1 h2
    subst h1 h2 c5
    exact ⟨rfl, by decide, by decide, by decide⟩
  rw [if_neg c5] at h
  by_cases c6 : p = 6
  · rw [if_pos c6] at h
    injection h with h
    injection h with h1 h2
    subst h1 h2 c6
    exact ⟨rfl, by decide, by decide, by decide⟩
  rw [if_neg c6] at h
  by_cases c7 : p = 7
  · rw [if_pos c7] at h
    injection h with h
    injection h with h1 h2
    subst h1 h2 c7
    exact ⟨rfl, by decide, by decide, by decide⟩
  rw [if_neg c7] at h
  by_cases c8 : p = 8
  · rw [if_pos c8] at h
    injection h with h
    injection h with h1 h2
    subst h1 h2 c8
    exact ⟨rfl, by decide, by decide, by decide⟩
  rw [if_neg c8] at h
  by_cases c9 : p = 9
  · rw [if_pos c9] at h
    injection h with h
    injection h with h1 h2
    subst h1 h2 c9
    exact ⟨rfl, by decide, by decide, by decide⟩
  rw [if_neg c9] at h
  by_cases c10 : p = 10
  · rw [if_pos c10] at h
    injection h with h
    injection h with h1 h2
    subst h1 h2 c10
    exact ⟨rfl, by decide, by decide, by decide⟩
  rw [if_neg c10] at h
  by_cases c11 : p = 11
  · rw [if_pos c11] at h
    injection h with h
    injection h with h1 h2
    subst h1 h2 c11
    exact ⟨rfl, by decide, by decide, by decide⟩
  rw [if_neg c11] at h
  by_cases c12 : p = 12
  · rw [if_pos c12] at h
    injection h with h
    injection h with h1 h2
    subst h1 h2 c12
    exact ⟨rfl, by decide, by decide, by decide⟩
  rw [if_neg c12] at h
  by_cases c13 : p = 13
  · rw [if_pos c13] at h
    injection h with h
    injection h with h1 h2
    subst h1 h2 c13
    exact ⟨rfl, by decide, by decide, by decide⟩
  rw [if_neg c13] at h
  by_cases c14 : p = 14
  · rw [if_pos c14] at h
    injection h with h
    injection h with h1 h2
    subst h1 h2 c14
    exact ⟨rfl, by decide, by decide, by decide⟩
  rw [if_neg c14] at h
  by_cases c15 : p = 15
  · rw [if_pos c15] at h
    injection h with h
    injection h with h1 h2
    subst h1 h2 c15
    exact ⟨rfl, by decide, by decide, by decide⟩
  rw [if_neg c15] at h
  cases h
theorem row_le {r : List Int} : ∀ {rows : List (List Int)}, r ∈ rows → r.length ≤ (PyFlat.putRows rows).length
  | [], h => by cases h
  | x :: rows, h => by
    show _ ≤ (PyFlat.putRow x ++ PyFlat.putRows rows).length
    rw [List.length_append]
    rcases List.mem_cons.mp h with z | z
    · subst z
      show _ ≤ (r.length + 1) + _
      omega
    · have := row_le z
      omega
theorem put_le {c : List (List Int)} : ∀ {cs : List (List (List Int))}, c ∈ cs → (PyFlat.put1 c).length ≤ (PyFlat.put cs).length
  | [], h => by cases h
  | x :: cs, h => by
    show _ ≤ (PyFlat.put1 x ++ PyFlat.put cs).length
    rw [List.length_append]
    rcases List.mem_cons.mp h with z | z
    · subst z
      omega
    · have := put_le z
      omega
theorem map_whole (cs : List (List (List Int))) : cs.map PyYqfhfa.whole = cs := by
  conv => rhs; rw [← List.map_id cs]
  exact List.map_congr_left fun c _ => whole_id c
/-- what is asked of the list of calls, and what is due -/
theorem asked_is {l : List Int} (hl : l.length ≤ 16000) (h : PyYqfhfa.answers_asked l = true) : ∃ cs : List FfNeutral.Call, l = PyFlat.put cs ∧ PyYqfhfa.answers l = PyFlat.told (PyFlat.played FfNeutral.step FfNeutral.start cs) ∧ (PyFlat.told (PyFlat.played FfNeutral.step FfNeutral.start cs)).length ≤ 10000000 ∧
    ∀ c ∈ cs, ∃ p xs rows, c = (p :: xs) :: rows ∧ tab_FORMS.lookup p = some [((xs.length : Nat) : Int), ((rows.length : Nat) : Int)] ∧ FfNeutral.asked1 c = true ∧ (∀ r ∈ rows, r.length ≤ 20000) ∧ rows.length ≤ 3 ∧ (fun p : Int => decide (1 ≤ p ∧ p ≤ 15)) p = true := by
  unfold PyYqfhfa.answers_asked at h
  cases q : PyFlat.calls PyYqfhfa.shape l.length l with
  | none => rw [q] at h; cases h
  | some raw =>
    rw [q] at h
    simp only [Bool.and_eq_true] at h
    obtain ⟨⟨_, ha⟩, hs⟩ := h
    rw [map_whole] at ha
    obtain ⟨e, ok⟩ := PyFlat.put_calls _ _ _ q
    have ean : PyYqfhfa.answers l = PyFlat.told (PyFlat.played FfNeutral.step FfNeutral.start raw) := by
      unfold PyYqfhfa.answers PyYqfhfa.calls
      rw [q]
      simp only [map_whole]
    refine ⟨raw, e, ean, ?_, fun c hc => ?_⟩
    · rw [ean] at hs
      exact of_decide_eq_true hs
    · obtain ⟨p, xs, rows, rfl, sh⟩ := ok c hc
      obtain ⟨f1, f2, f3, f4⟩ := form_of sh
      refine ⟨p, xs, rows, rfl, f1, ?_, fun r hr => ?_, f2, decide_eq_true ⟨f3, f4⟩⟩
      · unfold FfNeutral.asked at ha
        simp only [Bool.and_eq_true] at ha
        exact List.all_eq_true.mp ha.2.2.1 _ hc
      · have z1 := put_le hc
        have z2 := row_le hr
        rw [← e] at z1
        have z3 : (PyFlat.put1 ((p :: xs) :: rows)).length = (p :: xs).length + (PyFlat.putRows rows).length := List.length_append
        omega
end Fj
set_option Elab.async false
set_option linter.all false
set_option maxRecDepth 100000
set_option maxHeartbeats 4000000
namespace Fj
open PySem PySem.Spec PyProof.Rows L2
/-- the walk of a Spec row where the head's facts tell the written part -/
theorem walk_specE {r : PySem.W.OpenSpec} {k : Nat} {q : Program} {loose : List Str} {XP : (Str → Option Value) → Heap → Prop} {YP : World → Heap → Prop} {d : DefRec} {ps : List Str} {sp : PySem.W.Frag → Sp} {G : PySem.W.Frag → Prop}
    (hwell : r.wellSaid = true) (hdf : d.params.defaults = []) (hlen : r.args.length = ps.length) (hr : Room k callerA)
    (hY : ∀ (w : World) (h : Heap), YP w h → ∃ K : PySem.W.Frag, K.In h ∧ G K)
    (F : ∀ (w : World) (K : PySem.W.Frag) (mg : Str → Option Value) (fa : Addr) (h : Heap), G K → K.In h → h.Ns mainGlobals mg → mg d.name = some (.ref fa) →
      ∃ fd : FuncData, (∀ (s : Shared) (us : List Value), us.length = ps.length → BindsTo s fd ⟨us, []⟩ (ps.zip us)) ∧
        ∀ base : Heap, K.In base → base.Ns mainGlobals mg → FnOk r.prog w K mg base CX0 k fa fd ps (sp K))
    (hsp : ∀ (K : PySem.W.Frag) (H : Hp) (xs : List V) (a : PySem.W.Codec.denoteAll r.args), OnlyF H → PySem.W.Codec.withinAll r.args a = true → PySem.W.Codec.app r.args r.asked a = true → DwAll K H xs (PySem.W.Codec.encAll r.args a) →
      sp K xs H (fun v H' => Dw K H' v (r.ret.enc (PySem.W.Codec.app r.args r.f a))) fun _ _ _ => False) :
    PySem.W.WalkOS q loose XP YP r d [] (fun f vs => PySem.call f vs) := by
  intro w s0 s1 mg mb Gd Y
  obtain ⟨K0, hK, hG⟩ := hY w _ Y
  exact L2.walk_spec (r := r) (k := k) (q := q) (loose := loose) (XP := XP) (YP := fun w' h => w' = w ∧ K0.In h) (d := d) (K := fun _ => K0) (CX := fun _ => CX0) (ps := ps) (sp := fun _ => sp K0) hwell hdf hlen hr (fun _ _ y => y.2)
    (fun w' mg fa h y kx ns hm => by obtain ⟨rfl, _⟩ := y; exact F _ K0 mg fa h hG kx ns hm) (fun w' H xs a => hsp K0 H xs a) (fun _ _ _ _ _ z => z) w s0 s1 mg mb Gd ⟨rfl, hK⟩
theorem tx_of {K : PySem.W.Frag} {h : Heap} {mg : Str → Option Value} (X : K.In h) (G : h.Ns mainGlobals mg) (s : He.SaysD fas fns K ∧ exB K = true) : Tx K mg :=
  ⟨s.1, s.2, fun _ c => He.glo_ok X G c, fun _ c => He.free_ok X G c, fun _ _ c => He.int_ok X G c⟩
end Fj
open PySem PySem.W PyProof.Rows
set_option maxRecDepth 100000 in
set_option maxHeartbeats 0 in
theorem PySem.Challenge.cw_ferryjournals_s01_answers_holds : PySem.Challenge.rw_ferryjournals_s01_answers.Holds := by
  refine HandSHeadRun.head_spec (r := Fj.Rw) (q := Fj.Vw) (H := Fj.hkX) (ob := Fj.ob) (M := 9000) (loose := Fj.loose) (kwd := []) Fj.ob_eq (by kernel_rfl) (fun s => by kernel_rfl) Fj.run (by rfl) (by rfl) (by rfl) os_shapes (by decide +kernel) (by decide +kernel) ⟨rfl, rfl, rfl, rfl, rfl, by decide +kernel⟩ ⟨[.list [.int 10, .int 0]], by decide +kernel, by decide +kernel⟩ ?_
  refine Fj.walk_specE (r := Fj.Rw) (k := 13) (ps := ["calls"]) (sp := Fj.spAnswers fun p => decide (1 ≤ p ∧ p ≤ 15)) (G := fun K => He.SaysD Fj.fas Fj.fns K ∧ Fj.exB K = true) (by decide +kernel) rfl rfl ⟨rfl, by decide, by decide⟩ (fun w h y => y) ?_ ?_
  · intro w K mg fa h hG kx ns hm
    have T := Fj.tx_of kx ns hG
    have e : fa = He.ga K "answers" := by
      have z := T.g_answers
      have hm : mg "answers" = some (.ref fa) := hm
      rw [hm] at z
      injection z with z
      injection z
    subst e
    exact ⟨Fj.fd_answers T, fun s us hu => L2.FunD.bindsA (Fj.fn_answers T) (fun _ _ _ _ _ _ us hl => match us, hl with | [_], _ => rfl) s us hu, fun base _ _ => Fj.ok_answers T⟩
  · intro K H xs a hO hwi hask hx
    cases hx with
    | cons h1 h2 =>
      cases h2
      cases h1 with
      | lst hs ha =>
        have e := L2.ints_dw a.1 _ ha
        subst e
        have hl : a.1.length ≤ 16000 := by
          have z : (PySem.W.Codec.within (.list 0 16000 (.int (Int.ofNat 0) (Int.ofNat 18446744073709551615))) a.1 && true) = true := hwi
          rw [Bool.and_true] at z
          unfold PySem.W.Codec.within at z
          unfold PySem.W.Codec.inList at z
          unfold PySem.W.Codec.inLen PySem.W.Codec.inNat at z
          simp only [Bool.and_eq_true, decide_eq_true_eq] at z
          exact z.1.2
        obtain ⟨cs, e1, e2, e3, e4⟩ := Fj.asked_is hl hask
        have e1 : a.1 = PyFlat.put cs := e1
        refine ⟨_, cs, rfl, ?_, e4, e3, fun H' p _ hp => ?_⟩
        · rw [← e1]
          exact hs
        · have z : L2.Dw K H' (.ref p) (.list ((PyFlat.told (PyFlat.played FfNeutral.step FfNeutral.start cs)).map WData.int)) := .lst (L2.SqL.of hp) (L2.dw_ints _)
          rw [← e2] at z
          exact z
#print axioms PySem.Challenge.cw_ferryjournals_s01_answers_holds
